"""Point 100: dates."""

import datetime
import unittest

from gazette.dates import add_months, date_of, day_of, is_leap, month_length, next_date, weekday
from support import Case


def plain(date):
    return (date.year, date.month, date.day)


class LeapTest(Case):
    def test_years(self):
        for year, expected in ((1, False), (4, True), (100, False), (400, True), (2000, True), (2800, True)):
            self.same(is_leap(year), expected)
        for year, expected in ((2, False), (200, False), (1900, False), (2100, False), (2023, False), (2024, True)):
            self.same(is_leap(year), expected)

    def test_how_many_there_are(self):
        self.assertEqual(sum(is_leap(year) for year in range(1, 401)), 97)
        self.assertEqual(sum(is_leap(year) for year in range(1, 2801)), 679)


class MonthLengthTest(Case):
    def test_a_plain_year(self):
        lengths = [month_length(2023, month) for month in range(1, 13)]
        self.same(lengths, [31, 28, 31, 30, 31, 30, 31, 31, 30, 31, 30, 31])

    def test_a_leap_year(self):
        lengths = [month_length(2024, month) for month in range(1, 13)]
        self.same(lengths, [31, 29, 31, 30, 31, 30, 31, 31, 30, 31, 30, 31])

    def test_february(self):
        for year, expected in ((1, 28), (4, 29), (100, 28), (400, 29), (1900, 28), (2000, 29), (2800, 29)):
            self.same(month_length(year, 2), expected)


class WeekdayTest(Case):
    def test_day_0_is_a_monday(self):
        self.same([weekday(day) for day in range(8)], [0, 1, 2, 3, 4, 5, 6, 0])
        self.same(weekday(1000000), 1)

    def test_against_the_calendar_of_python(self):
        for day in range(0, 1000001, 997):
            self.same(weekday(day), datetime.date.fromordinal(day + 1).weekday())


class DayAndDateTest(Case):
    def test_the_first_and_the_last_day(self):
        self.same(day_of((1, 1, 1)), 0)
        self.same(date_of(0), (1, 1, 1))
        self.same(date_of(1000000), (2738, 11, 29))
        self.same(day_of((2738, 11, 29)), 1000000)

    def test_the_last_date(self):
        self.same(day_of((2800, 12, 31)), 1022678)
        self.same(date_of(1022678), (2800, 12, 31))

    def test_the_ends_of_years(self):
        self.same((day_of((1, 12, 31)), day_of((2, 1, 1))), (364, 365))
        self.same((day_of((4, 12, 31)), day_of((5, 1, 1))), (1460, 1461))
        self.same((date_of(364), date_of(365), date_of(1460), date_of(1461)), (
            (1, 12, 31), (2, 1, 1), (4, 12, 31), (5, 1, 1)))

    def test_years_with_a_round_number(self):
        for year in (1, 4, 100, 400, 2000, 2800):
            before = 365 * (year - 1) + sum(is_leap(earlier) for earlier in range(1, year))
            self.same(day_of((year, 1, 1)), before)
            self.same(date_of(before), (year, 1, 1))
            last = before + (365 if is_leap(year) else 364)
            self.same(day_of((year, 12, 31)), last)
            self.same(date_of(last), (year, 12, 31))

    def test_the_ends_of_february(self):
        self.same(date_of(day_of((2000, 2, 28)) + 1), (2000, 2, 29))
        self.same(date_of(day_of((1900, 2, 28)) + 1), (1900, 3, 1))

    def test_against_the_calendar_of_python(self):
        days = [*range(0, 1000001, 37), *range(146000, 146200), *range(730000, 730600), *range(999000, 1000001)]
        for day in days:
            date = plain(datetime.date.fromordinal(day + 1))
            self.same(date_of(day), date)
            self.same(day_of(date), day)


class NextDateTest(Case):
    def test_inside_a_month(self):
        self.same(next_date((2023, 1, 30)), (2023, 1, 31))

    def test_the_ends_of_months(self):
        self.same(next_date((2023, 1, 31)), (2023, 2, 1))
        self.same(next_date((2023, 2, 28)), (2023, 3, 1))
        self.same(next_date((2024, 2, 28)), (2024, 2, 29))
        self.same(next_date((2024, 2, 29)), (2024, 3, 1))
        self.same(next_date((2023, 4, 30)), (2023, 5, 1))
        self.same(next_date((2023, 12, 31)), (2024, 1, 1))
        self.same(next_date((100, 2, 28)), (100, 3, 1))

    def test_beyond_the_last_date(self):
        self.same(next_date((2800, 12, 31)), (2801, 1, 1))

    def test_day_after_day(self):
        date = (1999, 12, 1)
        for day in range(day_of(date), day_of(date) + 1000):
            self.same(date, date_of(day))
            date = next_date(date)


class AddMonthsTest(Case):
    def test_the_same_day_of_the_month(self):
        self.same(add_months((2023, 1, 15), 1), (2023, 2, 15))
        self.same(add_months((2023, 11, 30), 1), (2023, 12, 30))
        self.same(add_months((2023, 12, 31), 1), (2024, 1, 31))
        self.same(add_months((2023, 12, 31), 12), (2024, 12, 31))
        self.same(add_months((1, 1, 1), 1200), (101, 1, 1))

    def test_no_months(self):
        self.same(add_months((2024, 2, 29), 0), (2024, 2, 29))
        self.same(add_months((2023, 12, 31), 0), (2023, 12, 31))
        self.same(add_months((2023, 1, 1), 0), (2023, 1, 1))

    def test_a_month_that_is_too_short(self):
        self.same(add_months((2024, 1, 31), 1), (2024, 2, 29))
        self.same(add_months((2024, 1, 30), 1), (2024, 2, 29))
        self.same(add_months((2024, 1, 29), 1), (2024, 2, 29))
        self.same(add_months((2023, 1, 29), 1), (2023, 2, 28))
        self.same(add_months((2023, 3, 31), 1), (2023, 4, 30))
        self.same(add_months((2024, 2, 29), 12), (2025, 2, 28))
        self.same(add_months((2024, 2, 29), 48), (2028, 2, 29))
        self.same(add_months((2000, 2, 29), 1200), (2100, 2, 28))
        self.same(add_months((2300, 2, 28), 1200), (2400, 2, 28))

    def test_beyond_the_last_date(self):
        self.same(add_months((2800, 12, 31), 1200), (2900, 12, 31))
        self.same(add_months((2800, 12, 31), 2), (2801, 2, 28))

    def test_month_by_month(self):
        for date in ((2019, 8, 5), (2019, 8, 28)):
            moved = date
            for months in range(100):
                self.same(add_months(date, months), moved)
                year, month, day = moved
                moved = (year + 1, 1, day) if month == 12 else (year, month + 1, day)


if __name__ == "__main__":
    unittest.main()
