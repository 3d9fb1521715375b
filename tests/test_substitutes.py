"""Point 42: seats that are filled from a list."""

import itertools
import unittest

from gazette.substitutes import available, seated_by_rank, seated_by_tenure
from support import Case

RANKED = (3, 1, 4, 0)


def events(words):
    """Events from words such as "-3 +3": a departure and a return."""
    kinds = {"-": "departs", "+": "returns"}
    return tuple((kinds[word[0]], int(word[1:])) for word in words.split())


class AvailableTest(Case):
    def test_at_first_nobody_is_absent(self):
        self.same(available(RANKED, ()), RANKED)
        self.same(available((), ()), ())

    def test_the_last_event_counts(self):
        self.same(available(RANKED, events("-3 -0")), (1, 4))
        self.same(available(RANKED, events("-3 -0 +3")), (3, 1, 4))
        self.same(available(RANKED, events("-3 +3 -3")), (1, 4, 0))

    def test_events_without_effect(self):
        self.same(available(RANKED, events("-3 -3 +3")), RANKED)
        self.same(available(RANKED, events("+1 +1")), RANKED)
        self.same(available(RANKED, events("+1 -1")), (3, 4, 0))
        self.same(available(RANKED, events("-7 +8 -7")), RANKED)

    def test_everybody_departs(self):
        self.same(available(RANKED, events("-0 -1 -3 -4")), ())


class SeatedByRankTest(Case):
    def test_the_first_available_members(self):
        self.same(seated_by_rank(RANKED, 2, ()), (3, 1))
        self.same(seated_by_rank(RANKED, 2, events("-3")), (1, 4))
        self.same(seated_by_rank(RANKED, 2, events("-3 -4 +3 -1")), (3, 0))

    def test_more_seats_than_available_members(self):
        self.same(seated_by_rank(RANKED, 4, events("-1")), (3, 4, 0))
        self.same(seated_by_rank(RANKED, 12, ()), RANKED)
        self.same(seated_by_rank((), 3, events("-1 +1")), ())

    def test_no_seats(self):
        self.same(seated_by_rank(RANKED, 0, events("-3 +3")), ())

    def test_events_of_others_have_no_effect(self):
        self.same(seated_by_rank(RANKED, 2, events("-7 +8")), (3, 1))


class SeatedByTenureTest(Case):
    def check(self, many, words, expected):
        self.same(seated_by_tenure(RANKED, many, events(words)), expected)

    def test_at_first(self):
        self.check(0, "", ())
        self.check(2, "", (3, 1))
        self.check(12, "", RANKED)

    def test_the_seat_goes_to_the_first_available_member(self):
        self.check(2, "-3", (1, 4))
        self.check(2, "-1", (3, 4))
        self.check(2, "-4 -1", (3, 0))
        self.check(2, "-3 -1", (4, 0))

    def test_a_substitute_keeps_the_seat(self):
        self.check(2, "-3 +3", (1, 4))
        self.check(2, "-3 +3 -4", (3, 1))
        self.check(1, "-3 +3", (1,))
        self.check(1, "-3 -1 +3 +1", (4,))
        self.check(1, "-3 -1 +3 +1 -4", (3,))

    def test_nobody_is_left(self):
        self.check(2, "-4 -0 -3", (1,))
        self.check(2, "-4 -0 -3 -1", ())
        self.check(4, "-1", (3, 4, 0))

    def test_a_return_to_an_empty_seat(self):
        self.check(4, "-1 +1", RANKED)
        self.check(2, "-4 -0 -3 +0", (1, 0))
        self.check(2, "-4 -0 -3 +0 +3", (1, 0))
        self.check(2, "-4 -0 -3 -1 +4 +3", (3, 4))

    def test_a_seated_member_returns(self):
        self.check(2, "+3", (3, 1))
        self.check(2, "+4", (3, 1))

    def test_an_absent_member_departs_again(self):
        self.check(2, "-3 -3", (1, 4))
        self.check(2, "-4 -4 -3", (1, 0))
        self.check(2, "-4 -4 +4 -3", (1, 4))

    def test_events_of_members_who_are_not_on_the_list(self):
        self.check(2, "-7 +7 +8", (3, 1))
        self.check(4, "-3 +7", (1, 4, 0))
        self.check(12, "+7", RANKED)

    def test_no_seats(self):
        self.check(0, "-3 +3 -1 +1", ())
        self.same(seated_by_tenure((), 2, events("-1 +1")), ())

    def test_in_the_order_of_the_list(self):
        self.check(3, "-3 +3 -1", (3, 4, 0))

    def test_every_short_sequence_of_events(self):
        """No seat is empty while a member is available, and nobody gives way to a return."""
        ranked = (2, 0, 1)
        single = tuple(itertools.product(("departs", "returns"), (0, 1, 2, 5)))
        for many in (0, 1, 2, 4):
            for sequence in itertools.product(single, repeat=4):
                before = seated_by_tenure(ranked, many, sequence[:-1])
                after = seated_by_tenure(ranked, many, sequence)
                ready = available(ranked, sequence)
                self.assertEqual(len(after), min(many, len(ready)))
                self.assertEqual([member for member in ranked if member in after], list(after))
                self.assertLessEqual(set(after), set(ready))
                self.assertLessEqual(set(before) & set(ready), set(after))


if __name__ == "__main__":
    unittest.main()
