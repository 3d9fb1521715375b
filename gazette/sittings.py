"""Calendars: on which days there are sittings, and their numbers."""

from gazette.dates import weekday


def is_sitting(calendar, day):
    """Return whether there is a sitting on a day."""
    start, weekdays, holidays = calendar
    return day >= start and weekdays[weekday(day)] and day not in holidays


def sitting_day(calendar, sitting):
    """Return the day of the sitting with a number."""
    start, weekdays, holidays = calendar
    number = sitting
    # Each holiday in ascending order shifts the sittings that would follow it by one.
    for holiday in sorted(set(holidays)):
        if _would_be_sitting(calendar, holiday) and _weekdays_before(calendar, holiday) <= number:
            number += 1
    weeks, place = divmod(number, weekdays.count(True))
    first_week = [day for day in range(start, start + 7) if weekdays[weekday(day)]]
    return first_week[place] + 7 * weeks


def sittings_before(calendar, day):
    """Return the number of sittings on days before a day."""
    holidays = sorted(set(calendar[2]))
    lost = [holiday for holiday in holidays if holiday < day and _would_be_sitting(calendar, holiday)]
    return _weekdays_before(calendar, day) - len(lost)


def last_sitting(calendar, day):
    """Return the number of the last sitting up to a day, or None if there is none."""
    many = sittings_before(calendar, day + 1)
    return many - 1 if many > 0 else None


def _would_be_sitting(calendar, day):
    """Return whether there would be a sitting on a day without the holidays."""
    start, weekdays, _ = calendar
    return day >= start and weekdays[weekday(day)]


def _weekdays_before(calendar, day):
    """Return the number of days from the start on and before a day that have a weekday of sittings."""
    start, weekdays, _ = calendar
    weeks, rest = divmod(max(day - start, 0), 7)
    in_rest = [weekdays[weekday(start + index)] for index in range(rest)]
    return weeks * weekdays.count(True) + in_rest.count(True)
