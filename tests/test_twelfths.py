"""Point 129: twelfths of yearly amounts."""

import random
import unittest

from gazette.twelfths import monthly_releases, released
from support import Case


class ReleasedTest(Case):
    def test_one_amount(self):
        self.same(released((120,) * 12), tuple(range(10, 121, 10)))
        self.same(monthly_releases((120,) * 12), (10,) * 12)
        self.same(released((0,) * 12), (0,) * 12)
        self.same(monthly_releases((0,) * 12), (0,) * 12)

    def test_rounded_down(self):
        self.same(released((7,) * 12), (0, 1, 1, 2, 2, 3, 4, 4, 5, 5, 6, 7))
        self.same(monthly_releases((7,) * 12), (0, 1, 0, 1, 0, 1, 1, 0, 1, 0, 1, 1))
        self.same(released((11,) * 12)[0], 0)
        self.same(released((23,) * 12)[0], 1)
        self.same(released((1000000,) * 12)[::11], (83333, 1000000))

    def test_amounts_that_fall_during_the_year(self):
        self.same(released((120, 120, 120) + (60,) * 9), (10, 20, 30, 30, 30, 30, 35, 40, 45, 50, 55, 60))
        self.same(monthly_releases((120, 120, 120) + (60,) * 9), (10, 10, 10, 0, 0, 0, 5, 5, 5, 5, 5, 5))
        self.same(released((1200,) + (0,) * 11), (100,) * 12)
        self.same(monthly_releases((1200,) + (0,) * 11), (100,) + (0,) * 11)

    def test_amounts_that_rise_during_the_year(self):
        self.same(released((0,) * 11 + (120,)), (0,) * 11 + (120,))
        self.same(released((12,) * 6 + (120,) * 6), (1, 2, 3, 4, 5, 6, 70, 80, 90, 100, 110, 120))
        self.same(monthly_releases((12,) * 6 + (120,) * 6), (1, 1, 1, 1, 1, 1, 64, 10, 10, 10, 10, 10))

    def test_against_the_words(self):
        numbers = random.Random(129)
        for _ in range(300):
            amounts = tuple(numbers.randint(0, 200) for _ in range(12))
            due = [int((month + 1) * amount / 12) for month, amount in enumerate(amounts)]
            totals = released(amounts)
            self.same(totals, tuple(max(due[:month + 1]) for month in range(12)))
            releases = monthly_releases(amounts)
            self.same(tuple(sum(releases[:month + 1]) for month in range(12)), totals)


if __name__ == "__main__":
    unittest.main()
