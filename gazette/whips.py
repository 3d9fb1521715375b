"""How few members decide a vote under a read-once rule."""

from gazette.errors import NotReadOnce
from gazette.rules import leaves, simple_passes


def is_read_once(rule):
    """Return whether a rule names no chamber twice and does without the premier."""
    parts = leaves(rule)
    if ("premier",) in parts:
        return False
    chambers = [part[1] for part in parts]
    return len(set(chambers)) == len(chambers)


def least_yeas(rule, sizes, *, parameters=()):
    """Return how many yeas a rule needs at least if all members vote, or None."""
    return _total(decisive_yeas(rule, sizes, parameters=parameters))


def least_absences(rule, sizes, *, parameters=()):
    """Return how many absences make a rule fail at least if all others vote yea, or None."""
    return _total(decisive_absences(rule, sizes, parameters=parameters))


def decisive_yeas(rule, sizes, *, parameters=()):
    """Return the least yeas of a rule, chamber by chamber, or None."""
    _check_read_once(rule)
    return _decisive(rule, sizes, "all", lambda part, size: _simple_yeas(part, size, parameters))


def decisive_absences(rule, sizes, *, parameters=()):
    """Return the least absences of a rule, chamber by chamber, or None."""
    _check_read_once(rule)
    return _decisive(rule, sizes, "any", lambda part, size: _simple_absences(part, size, parameters))


def _check_read_once(rule):
    if not is_read_once(rule):
        raise NotReadOnce("the rule names a chamber twice or contains the vote of the premier")


def _simple_yeas(rule, size, parameters):
    for yeas in range(size + 1):
        if simple_passes(rule, (size, yeas, size - yeas, 0), parameters):
            return yeas
    return None


def _simple_absences(rule, size, parameters):
    for absences in range(size + 1):
        if not simple_passes(rule, (size, size - absences, 0, 0), parameters):
            return absences
    return None


def _decisive(rule, sizes, adding, least):
    """Return the decisive numbers, or None.

    The form `adding` needs both of its operands; the other form needs only the easier one.
    The function `least` tells the number of a simple rule for the size of its chamber.
    """
    if rule[0] not in ("all", "any"):
        size = sizes[rule[1]] if rule[1] < len(sizes) else 0
        return _at_place(least(rule, size), rule[1], len(sizes))
    first = _decisive(rule[1], sizes, adding, least)
    second = _decisive(rule[2], sizes, adding, least)
    return _sums(first, second) if rule[0] == adding else _fewer(first, second)


def _at_place(number, place, places):
    if number is None:
        return None
    return tuple([number if at == place else 0 for at in range(places)])


def _sums(first, second):
    if first is None or second is None:
        return None
    return tuple([x + y for x, y in zip(first, second)])


def _fewer(first, second):
    if first is None or second is None:
        return second if first is None else first
    return second if sum(second) < sum(first) else first


def _total(numbers):
    return None if numbers is None else sum(numbers)
