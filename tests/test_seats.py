"""Points 40 and 41: changes of seats."""

import itertools
import unittest

from gazette.seats import apply_changes, changes_between, inverse_changes, is_seating, set_holders
from support import Case

SEATS = ((0, None), (None, 1))


def all_seatings(members, shape):
    holders = (None, *range(members))
    for flat in itertools.product(holders, repeat=sum(shape)):
        seats, rest = [], flat
        for many in shape:
            seats.append(rest[:many])
            rest = rest[many:]
        if is_seating(members, tuple(seats)):
            yield tuple(seats)


class SeatingTest(Case):
    def test_valid(self):
        self.same(is_seating(3, ((0, 1, 2),)), True)
        self.same(is_seating(3, ((2, None, None), (2, 0))), True)
        self.same(is_seating(1, ((None,),)), True)
        self.same(is_seating(12, (tuple(range(12)), (11,))), True)

    def test_a_holder_who_is_no_member(self):
        self.same(is_seating(2, ((0, 1, 2),)), False)
        self.same(is_seating(2, ((0, 1), (None, 2))), False)
        self.same(is_seating(1, ((0,), (1,))), False)

    def test_a_member_twice_in_a_chamber(self):
        self.same(is_seating(3, ((0, 1, 0),)), False)
        self.same(is_seating(3, ((0, 1), (2, None, 2))), False)


class ValidChangeTest(Case):
    def test_vacating(self):
        self.same(apply_changes(3, SEATS, ((0, 0, None),)), (((None, None), (None, 1)), None))
        self.same(apply_changes(3, SEATS, ((1, 1, None),)), (((0, None), (None, None)), None))

    def test_filling(self):
        self.same(apply_changes(3, SEATS, ((0, 1, 2),)), (((0, 2), (None, 1)), None))
        self.same(apply_changes(3, SEATS, ((1, 0, 0),)), (((0, None), (0, 1)), None))

    def check_refused(self, *change, members=3, seats=SEATS):
        self.same(apply_changes(members, seats, (change,)), (seats, 0))
        self.same(inverse_changes(members, seats, (change,)), None)

    def test_a_seat_that_does_not_exist(self):
        for member in (None, 2):
            self.check_refused(2, 0, member)
            self.check_refused(3, 11, member)
            self.check_refused(0, 2, member)
            self.check_refused(1, 11, member)

    def test_vacating_a_vacant_seat(self):
        self.check_refused(0, 1, None)
        self.check_refused(1, 0, None)

    def test_filling_a_filled_seat(self):
        self.check_refused(0, 0, 2)
        self.check_refused(0, 0, 0)
        self.check_refused(1, 1, 0)

    def test_a_member_who_does_not_exist(self):
        self.check_refused(0, 1, 3)
        self.check_refused(0, 1, 11)
        self.check_refused(0, 1, 2, members=2)

    def test_a_member_who_holds_a_seat_of_the_chamber(self):
        self.check_refused(0, 1, 0)
        self.check_refused(1, 0, 1)

    def test_a_member_who_holds_a_seat_of_another_chamber(self):
        self.same(apply_changes(2, SEATS, ((0, 1, 1),)), (((0, 1), (None, 1)), None))

    def test_seats_need_not_be_a_valid_seating(self):
        seats = ((0, 0, None, 9),)
        self.same(apply_changes(2, seats, ((0, 0, None),)), (((None, 0, None, 9),), None))
        self.same(apply_changes(2, seats, ((0, 3, None), (0, 3, 1))), (((0, 0, None, 1),), None))
        self.check_refused(0, 2, 0, members=2, seats=seats)
        self.same(inverse_changes(2, seats, ((0, 3, None),)), ((0, 3, 9),))


class ChangesTest(Case):
    def test_no_changes(self):
        self.same(apply_changes(3, SEATS, ()), (SEATS, None))
        self.same(inverse_changes(3, SEATS, ()), ())
        self.same(set_holders(SEATS, ()), SEATS)
        self.same(changes_between(SEATS, SEATS), ())

    def test_each_to_the_seats_after_those_before_it(self):
        self.same(apply_changes(3, SEATS, ((0, 0, None), (0, 0, 2), (0, 1, 0))), (((2, 0), (None, 1)), None))
        self.same(apply_changes(3, SEATS, ((0, 1, 2), (0, 1, None), (0, 1, 2))), (((0, 2), (None, 1)), None))

    def test_what_stands_behind_the_first_one_that_is_not_valid(self):
        self.same(apply_changes(3, SEATS, ((0, 0, 2), (0, 1, 2))), (SEATS, 0))
        self.same(apply_changes(3, SEATS, ((0, 1, 2), (0, 0, 1), (1, 1, None))), (((0, 2), (None, 1)), 1))
        changes = ((0, 0, None), (0, 1, 2), (1, 1, None), (3, 0, 1))
        self.same(apply_changes(3, SEATS, changes), (((None, 2), (None, None)), 3))
        self.same(inverse_changes(3, SEATS, changes), None)
        self.same(inverse_changes(3, SEATS, ((0, 0, None), (0, 0, None), (0, 0, 1))), None)

    def test_inverse(self):
        changes = ((0, 0, None), (0, 0, 2), (1, 0, 2), (0, 0, None), (0, 1, 0))
        expected = ((0, 1, None), (0, 0, 2), (1, 0, None), (0, 0, None), (0, 0, 0))
        self.same(inverse_changes(3, SEATS, changes), expected)

    def test_inverse_leads_back(self):
        single = list(itertools.product((0, 1), (0, 1), (None, 0, 1, 2)))
        for changes in itertools.product(single, repeat=3):
            after, index = apply_changes(3, SEATS, changes)
            inverse = inverse_changes(3, SEATS, changes)
            self.assertEqual(inverse is None, index is not None)
            if index is None:
                self.same(apply_changes(3, after, inverse), (SEATS, None))
            else:
                self.same(apply_changes(3, SEATS, changes[:index]), (after, None))


class SetHoldersTest(Case):
    def test_whether_valid_or_not(self):
        self.same(set_holders(SEATS, ((0, 0, 2),)), ((2, None), (None, 1)))
        self.same(set_holders(SEATS, ((0, 1, 0),)), ((0, 0), (None, 1)))
        self.same(set_holders(SEATS, ((0, 1, None), (1, 0, 11))), ((0, None), (11, 1)))
        self.same(set_holders(SEATS, ((1, 1, None),)), ((0, None), (None, None)))

    def test_a_seat_that_does_not_exist(self):
        self.same(set_holders(SEATS, ((2, 0, 1), (0, 2, 1), (3, 11, None), (0, 0, 1))), ((1, None), (None, 1)))

    def test_in_order(self):
        self.same(set_holders(SEATS, ((0, 0, 1), (0, 0, None), (0, 0, 2))), ((2, None), (None, 1)))
        self.same(set_holders(SEATS, ((0, 0, 2), (0, 0, 1), (0, 0, None))), ((None, None), (None, 1)))


class ChangesBetweenTest(Case):
    def test_vacating_first(self):
        before, after = ((0, 1, None), (2, None)), ((1, None, 2), (2, 0))
        expected = ((0, 0, None), (0, 1, None), (0, 0, 1), (0, 2, 2), (1, 1, 0))
        self.same(changes_between(before, after), expected)

    def test_chamber_by_chamber(self):
        before, after = ((0, 1), (2, 3)), ((1, 0), (None, 2))
        expected = ((0, 0, None), (0, 1, None), (1, 0, None), (1, 1, None), (0, 0, 1), (0, 1, 0), (1, 1, 2))
        self.same(changes_between(before, after), expected)

    def test_they_lead_there_and_are_the_fewest(self):
        for shape, members in (((2,), 3), ((2, 1), 2), ((3,), 3)):
            seatings = list(all_seatings(members, shape))
            for before in seatings:
                fewest = self.distances(members, before, shape)
                for after in seatings:
                    changes = changes_between(before, after)
                    self.same(apply_changes(members, before, changes), (after, None))
                    self.assertEqual(len(changes), fewest[after])

    def distances(self, members, start, shape):
        """The fewest valid changes from a seating to each other one."""
        found, latest = {start: 0}, [start]
        while latest:
            seats = latest.pop(0)
            for chamber, many in enumerate(shape):
                for change in itertools.product((chamber,), range(many), (None, *range(members))):
                    after, index = apply_changes(members, seats, (change,))
                    if index is None and after not in found:
                        found[after] = found[seats] + 1
                        latest.append(after)
        return found


if __name__ == "__main__":
    unittest.main()
