"""Point 20: tallies."""

import unittest

from gazette.tallies import tally
from support import Case


class TallyTest(Case):
    def test_each_vote(self):
        self.same(tally(((0, 1, 2, 3, 4),), "YNP-Y", 0), (5, 2, 1, 1))
        self.same(tally(((0, 1, 2, 3),), "NNPP", 0), (4, 0, 2, 2))

    def test_holders_in_any_order(self):
        self.same(tally(((4, 2, 0),), "YNP-N", 0), (3, 1, 1, 1))

    def test_each_chamber_by_its_number(self):
        seats = ((0, 1), (2,), (3, 4, 5), (6,))
        self.same(tally(seats, "YYNPPPY", 0), (2, 2, 0, 0))
        self.same(tally(seats, "YYNPPPY", 1), (1, 0, 1, 0))
        self.same(tally(seats, "YYNPPPY", 2), (3, 0, 0, 3))
        self.same(tally(seats, "YYNPPPY", 3), (1, 1, 0, 0))

    def test_a_chamber_that_does_not_exist(self):
        self.same(tally(((0, 1),), "YY", 1), (0, 0, 0, 0))
        self.same(tally(((0, 1),), "YY", 3), (0, 0, 0, 0))

    def test_a_member_beyond_the_end_is_absent(self):
        self.same(tally(((0, 1, 2, 11),), "YN", 0), (4, 1, 1, 0))
        self.same(tally(((0, 1),), "", 0), (2, 0, 0, 0))
        self.same(tally(((1,),), "Y", 0), (1, 0, 0, 0))

    def test_a_member_with_several_seats_counts_several_times(self):
        self.same(tally(((0, 0, 1),), "YN", 0), (3, 2, 1, 0))
        self.same(tally(((1, 0, 1, 1),), "YP", 0), (4, 1, 0, 3))

    def test_a_member_of_two_chambers_counts_in_both(self):
        seats = ((0, 1), (1, 2))
        self.same(tally(seats, "NYN", 0), (2, 1, 1, 0))
        self.same(tally(seats, "NYN", 1), (2, 1, 1, 0))

    def test_a_vacant_seat_is_a_seat_and_casts_no_vote(self):
        self.same(tally(((None, 0, None),), "Y", 0), (3, 1, 0, 0))
        self.same(tally(((None,),), "YYYY", 0), (1, 0, 0, 0))

    def test_the_vote_of_a_member_without_a_seat_does_not_count(self):
        self.same(tally(((1,),), "YNYY", 0), (1, 0, 1, 0))

    def test_twelve_members(self):
        self.same(tally((tuple(range(12)),), "YYYYNNNPP--Y", 0), (12, 5, 3, 2))


if __name__ == "__main__":
    unittest.main()
