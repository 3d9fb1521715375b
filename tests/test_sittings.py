"""Point 101: calendars and the numbers of sittings."""

import itertools
import unittest

from gazette.sittings import is_sitting, last_sitting, sitting_day, sittings_before
from support import Case

EVERY_DAY = (True,) * 7
MONDAYS = (True,) + (False,) * 6
SUNDAYS = (False,) * 6 + (True,)
TWICE = (True, False, False, True, False, False, False)


def some_calendars():
    weekdays = (EVERY_DAY, MONDAYS, SUNDAYS, TWICE, (False, True, True, True, True, False, False))
    holidays = ((), (0,), (7, 7, 14), (30, 24, 18, 12, 6, 0, 31, 25, 19, 13, 7, 1), (8, 9, 10, 8, 11), (4, 3, 2))
    return itertools.product((0, 3, 8), weekdays, holidays)


class IsSittingTest(Case):
    def test_weekdays(self):
        self.same([is_sitting((0, TWICE, ()), day) for day in range(8)], [
            True, False, False, True, False, False, False, True])
        self.same(is_sitting((0, SUNDAYS, ()), 6), True)

    def test_before_the_start(self):
        self.same(is_sitting((3, EVERY_DAY, ()), 2), False)
        self.same(is_sitting((3, EVERY_DAY, ()), 3), True)
        self.same(is_sitting((3, EVERY_DAY, ()), 0), False)

    def test_holidays(self):
        self.same(is_sitting((0, EVERY_DAY, (5,)), 5), False)
        self.same(is_sitting((0, EVERY_DAY, (5, 5)), 5), False)
        self.same(is_sitting((0, EVERY_DAY, (5, 5)), 6), True)

    def test_beyond_the_last_day(self):
        self.same(is_sitting((1000000, EVERY_DAY, ()), 1004000), True)
        self.same(is_sitting((1000000, MONDAYS, ()), 1003996), True)
        self.same(is_sitting((1000000, MONDAYS, ()), 1004000), False)
        self.same(is_sitting((1000000, EVERY_DAY, (1000000,)), 1000000), False)


class SittingDayTest(Case):
    def test_every_day(self):
        self.same(sitting_day((0, EVERY_DAY, ()), 0), 0)
        self.same(sitting_day((5, EVERY_DAY, ()), 0), 5)
        self.same(sitting_day((5, EVERY_DAY, ()), 9), 14)
        self.same(sitting_day((5, EVERY_DAY, ()), 400), 405)

    def test_weekdays(self):
        self.same([sitting_day((1, TWICE, ()), sitting) for sitting in range(5)], [3, 7, 10, 14, 17])
        self.same(sitting_day((1, MONDAYS, ()), 0), 7)
        self.same(sitting_day((0, MONDAYS, ()), 400), 2800)
        self.same(sitting_day((1, MONDAYS, ()), 400), 2807)

    def test_holidays(self):
        self.same(sitting_day((0, EVERY_DAY, (0,)), 0), 1)
        self.same(sitting_day((0, EVERY_DAY, (3, 2, 1, 0)), 0), 4)
        self.same(sitting_day((0, EVERY_DAY, (3,)), 2), 2)
        self.same(sitting_day((0, EVERY_DAY, (3,)), 3), 4)
        self.same(sitting_day((0, EVERY_DAY, (3, 4)), 3), 5)
        self.same(sitting_day((0, EVERY_DAY, (4, 3)), 3), 5)

    def test_a_holiday_that_is_no_weekday_of_sittings(self):
        self.same(sitting_day((0, MONDAYS, (1, 2, 3)), 1), 7)

    def test_doubled_holidays(self):
        self.same(sitting_day((0, EVERY_DAY, (2, 2, 2)), 2), 3)
        self.same(sitting_day((0, EVERY_DAY, (2, 2, 2)), 3), 4)

    def test_holidays_before_the_start(self):
        self.same(sitting_day((5, EVERY_DAY, (0, 4)), 0), 5)
        self.same(sitting_day((5, EVERY_DAY, (0, 4, 5)), 0), 6)

    def test_sitting_400_with_holidays(self):
        mondays = tuple(range(0, 84, 7))
        self.same(sitting_day((0, MONDAYS, mondays), 400), 2884)
        late = tuple(range(2800 - 84 + 7, 2807, 7))
        self.same(sitting_day((0, MONDAYS, late), 400), 2884)
        self.same(sitting_day((1000000, SUNDAYS, ()), 400), 1000005 + 2800)


class SittingsBeforeTest(Case):
    def test_earlier_days(self):
        self.same(sittings_before((0, EVERY_DAY, ()), 0), 0)
        self.same(sittings_before((0, EVERY_DAY, ()), 9), 9)
        self.same([sittings_before((0, TWICE, ()), day) for day in range(8)], [0, 1, 1, 1, 2, 2, 2, 2])

    def test_before_the_start(self):
        self.same(sittings_before((5, EVERY_DAY, (1,)), 0), 0)
        self.same(sittings_before((5, EVERY_DAY, (1,)), 5), 0)
        self.same(sittings_before((5, EVERY_DAY, (1,)), 6), 1)

    def test_holidays(self):
        self.same(sittings_before((0, EVERY_DAY, (3, 3, 5)), 3), 3)
        self.same(sittings_before((0, EVERY_DAY, (3, 3, 5)), 4), 3)
        self.same(sittings_before((0, EVERY_DAY, (3, 3, 5)), 9), 7)
        self.same(sittings_before((0, MONDAYS, (1, 2)), 8), 2)

    def test_the_last_day(self):
        self.same(sittings_before((1000000, EVERY_DAY, (1000000,)), 1004000), 3999)


class LastSittingTest(Case):
    def test_on_the_day_or_earlier(self):
        self.same(last_sitting((0, MONDAYS, ()), 0), 0)
        self.same(last_sitting((0, MONDAYS, ()), 6), 0)
        self.same(last_sitting((0, MONDAYS, ()), 7), 1)

    def test_none(self):
        self.same(last_sitting((1, MONDAYS, ()), 6), None)
        self.same(last_sitting((1, MONDAYS, ()), 7), 0)
        self.same(last_sitting((5, EVERY_DAY, ()), 4), None)
        self.same(last_sitting((5, EVERY_DAY, ()), 0), None)
        self.same(last_sitting((0, EVERY_DAY, (0, 1)), 1), None)
        self.same(last_sitting((0, EVERY_DAY, (0, 1)), 2), 0)


class DayByDayTest(Case):
    def test_against_counting(self):
        for calendar in some_calendars():
            start, weekdays, holidays = calendar
            days = []
            for day in range(start + 120):
                self.same(sittings_before(calendar, day), len(days))
                expected = day >= start and weekdays[day % 7] and day not in holidays
                self.same(is_sitting(calendar, day), expected)
                if expected:
                    self.same(sitting_day(calendar, len(days)), day)
                    days.append(day)
                self.same(last_sitting(calendar, day), len(days) - 1 if days else None)


if __name__ == "__main__":
    unittest.main()
