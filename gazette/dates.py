"""Dates of the Gregorian calendar, carried back to year 1."""

LENGTHS = (31, 28, 31, 30, 31, 30, 31, 31, 30, 31, 30, 31)
DAYS_IN_400_YEARS = 146097


def is_leap(year):
    """Return whether a year is a leap year."""
    return year % 400 == 0 or (year % 4 == 0 and year % 100 != 0)


def month_length(year, month):
    """Return the number of days of a month."""
    return 29 if month == 2 and is_leap(year) else LENGTHS[month - 1]


def weekday(day):
    """Return the weekday of a day, from 0 for Monday to 6 for Sunday."""
    return day % 7


def day_of(date):
    """Return the day with a date."""
    year, month, number = date
    months = [month_length(year, earlier) for earlier in range(1, month)]
    return _days_before(year) + sum(months) + number - 1


def date_of(day):
    """Return the date of a day."""
    cycles, left = divmod(day, DAYS_IN_400_YEARS)
    # No year is longer than 366 days, so this one is not too late.
    year = 400 * cycles + left // 366 + 1
    while _days_before(year + 1) <= day:
        year += 1
    left = day - _days_before(year)
    month = 1
    while left >= month_length(year, month):
        left -= month_length(year, month)
        month += 1
    return (year, month, left + 1)


def next_date(date):
    """Return the date of the next day."""
    return date_of(day_of(date) + 1)


def add_months(date, months):
    """Return the date so many months later, on the last day of the month if it is too short."""
    year, month, number = date
    later, index = divmod(12 * year + month - 1 + months, 12)
    return (later, index + 1, min(number, month_length(later, index + 1)))


def _days_before(year):
    earlier = year - 1
    return 365 * earlier + earlier // 4 - earlier // 100 + earlier // 400
