"""Points 20, 21 and 23: amounts that are left open."""

import unittest

from gazette.blanks import highest_passing, passes_amount
from gazette.rules import passes
from support import SIMPLE_RULES, Case, in_chamber

SEATS = ((0, 1, None, 1), (2, None, 5))
PARAMETERS = (3, 2)
PARTS = SIMPLE_RULES + tuple(in_chamber(rule, 1) for rule in SIMPLE_RULES) + (("yeas", 2, 0), ("premier",))
RULES = PARTS + tuple(
    (form, first, second) for form in ("all", "any") for first in PARTS[::2] for second in PARTS[::3]
)


def by_vote(rule, seats, maxima, amount, premier):
    padded = maxima + (0,) * (12 - len(maxima))
    roll_call = "".join("Y" if maximum >= amount else "N" for maximum in padded)
    return passes(rule, seats, roll_call, parameters=PARAMETERS, premier=premier)


class PassesAmountTest(Case):
    def test_as_a_vote_in_which_everybody_attends(self):
        for rule in RULES:
            for premier in (None, 0, 4, 5):
                for amount in (1, 2, 4, 1000):
                    expected = by_vote(rule, SEATS, (3, 1, 4, 0, 2), amount, premier)
                    actual = passes_amount(
                        rule, SEATS, (3, 1, 4, 0, 2), amount, parameters=PARAMETERS, premier=premier
                    )
                    self.same(actual, expected)

    def test_yea_up_to_the_maximum(self):
        self.same(passes_amount(("yeas", 0, 1), ((0,),), (7,), 7), True)
        self.same(passes_amount(("yeas", 0, 1), ((0,),), (7,), 8), False)

    def test_a_member_beyond_the_end_attends_and_votes_nay(self):
        self.same(passes_amount(("quorum", 0, 2), ((0, 11),), (7,), 1), True)
        self.same(passes_amount(("yeas", 0, 2), ((0, 11),), (7,), 1), False)
        self.same(passes_amount(("premier",), ((0,),), (7,), 1, premier=1), False)

    def test_a_vacant_seat_does_not_attend(self):
        self.same(passes_amount(("quorum", 0, 2), ((0, None),), (7,), 1), False)
        self.same(passes_amount(("majority", 0, "seats"), ((0, None),), (7,), 1), False)

    def test_premier_without_a_seat(self):
        self.same(passes_amount(("premier",), ((0,),), (0, 9), 9, premier=1), True)
        self.same(passes_amount(("premier",), ((0,),), (0, 9), 10, premier=1), False)
        self.same(passes_amount(("premier",), ((0,),), (9, 9), 1), False)


class HighestPassingTest(Case):
    def test_the_greatest_amount_that_passes(self):
        all_maxima = ((3, 1, 4, 0, 2, 6), (7, 7, 3), (), (2,), (5, 0, 5, 9, 0, 5))
        for rule in RULES:
            for premier in (None, 0, 3):
                for maxima in all_maxima:
                    for cap in (0, 1, 4, 10):
                        self.check(rule, maxima, cap, premier)

    def check(self, rule, maxima, cap, premier):
        passing = [amount for amount in range(1, cap + 1) if by_vote(rule, SEATS, maxima, amount, premier)]
        actual = highest_passing(rule, SEATS, maxima, cap, parameters=PARAMETERS, premier=premier)
        self.same(actual, max(passing, default=0))

    def test_k_th_largest(self):
        seats = ((0, 1, 2, 3),)
        for k, expected in ((1, 9), (2, 8), (3, 5), (4, 2)):
            self.same(highest_passing(("yeas", 0, k), seats, (5, 9, 2, 8), 100), expected)

    def test_equal_maxima(self):
        self.same(highest_passing(("yeas", 0, 2), ((0, 1, 2),), (7, 7, 3), 100), 7)
        self.same(highest_passing(("yeas", 0, 3), ((0, 1, 2),), (7, 7, 3), 100), 3)

    def test_maxima_are_counted_seat_by_seat(self):
        self.same(highest_passing(("yeas", 0, 2), ((0, 0, 1),), (7, 3), 100), 7)
        self.same(highest_passing(("yeas", 0, 3), ((0, 0, 1),), (7, 3), 100), 3)

    def test_k_is_zero(self):
        self.same(highest_passing(("yeas", 0, 0), ((0,),), (5,), 100), 100)
        self.same(highest_passing(("quorum", 0, 1), ((0,),), (5,), 1000), 1000)
        self.same(highest_passing(("fraction", 0, 2, 3, "voting"), ((None,),), (5,), 9), 9)
        self.same(highest_passing(("fraction", 3, 1, 1, "seats"), ((0,),), (5,), 9), 9)

    def test_no_such_k(self):
        self.same(highest_passing(("yeas", 0, 2), ((0,),), (5,), 100), 0)
        self.same(highest_passing(("quorum", 0, 2), ((0, None),), (5,), 100), 0)
        self.same(highest_passing(("majority", 1, "seats"), ((0,),), (5,), 100), 0)
        self.same(highest_passing(("majority", 0, "voting"), ((None,),), (5,), 100), 0)

    def test_vacant_seats_count_among_all_seats(self):
        seats = ((0, 1, None, None),)
        self.same(highest_passing(("majority", 0, "seats"), seats, (5, 6), 100), 0)
        self.same(highest_passing(("fraction", 0, 1, 2, "seats"), seats, (5, 6), 100), 5)
        self.same(highest_passing(("majority", 0, "voting"), seats, (5, 6), 100), 5)
        self.same(highest_passing(("fraction", 0, 1, 2, "attending"), seats, (5, 6), 100), 6)

    def test_at_most_the_cap(self):
        self.same(highest_passing(("yeas", 0, 1), ((0,),), (50,), 49), 49)
        self.same(highest_passing(("yeas", 0, 1), ((0,),), (50,), 50), 50)
        self.same(highest_passing(("yeas", 0, 1), ((0,),), (50,), 0), 0)
        self.same(highest_passing(("premier",), ((0,),), (50,), 49, premier=0), 49)
        self.same(highest_passing(("yeas", 0, 0), ((0,),), (50,), 0), 0)

    def test_a_member_beyond_the_end_has_the_maximum_zero(self):
        self.same(highest_passing(("yeas", 0, 1), ((4, 11),), (9, 9), 100), 0)
        self.same(highest_passing(("yeas", 0, 2), ((0, 11),), (9,), 100), 0)
        self.same(highest_passing(("premier",), ((0,),), (9,), 100, premier=1), 0)

    def test_premier(self):
        self.same(highest_passing(("premier",), ((0,),), (9, 4), 100, premier=1), 4)
        self.same(highest_passing(("premier",), ((0,),), (9, 4), 100), 0)

    def test_all_and_any(self):
        high, low = ("yeas", 0, 1), ("yeas", 0, 2)
        for x, y in ((high, low), (low, high)):
            self.same(highest_passing(("all", x, y), ((0, 1),), (9, 4), 100), 4)
            self.same(highest_passing(("any", x, y), ((0, 1),), (9, 4), 100), 9)

    def test_parameters_and_premier_at_every_depth(self):
        rule = ("any", ("yeas", 0, 3), ("all", ("premier",), ("any", ("yeas", 1, 1), ("yeas", 0, ("parameter", 0)))))
        seats, maxima = ((0, 1),), (9, 4, 6)
        self.same(highest_passing(rule, seats, maxima, 100, parameters=(1,), premier=2), 6)
        self.same(highest_passing(rule, seats, maxima, 100, parameters=(2,), premier=2), 4)
        self.same(highest_passing(rule, seats, maxima, 100, parameters=(3,), premier=2), 0)
        self.same(highest_passing(rule, seats, maxima, 100, parameters=(1,)), 0)


if __name__ == "__main__":
    unittest.main()
