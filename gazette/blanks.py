"""Proposals that leave an amount open."""

from gazette.rules import evaluate, simple_passes
from gazette.tallies import holders_of


def passes_amount(rule, seats, maxima, amount, *, parameters=(), premier=None):
    """Return whether a rule passes when the amount is put to the vote."""
    premier_agrees = premier is not None and _maximum(maxima, premier) >= amount
    return evaluate(rule, lambda chamber: _amount_tally(seats, maxima, amount, chamber), premier_agrees, parameters)


def highest_passing(rule, seats, maxima, cap, *, parameters=(), premier=None):
    """Return the highest passing amount, an integer from 0 to the cap."""
    if rule[0] == "premier":
        return 0 if premier is None else min(cap, _maximum(maxima, premier))
    if rule[0] not in ("all", "any"):
        return _highest_simple(rule, seats, maxima, cap, parameters)
    first = highest_passing(rule[1], seats, maxima, cap, parameters=parameters, premier=premier)
    second = highest_passing(rule[2], seats, maxima, cap, parameters=parameters, premier=premier)
    return min(first, second) if rule[0] == "all" else max(first, second)


def _highest_simple(rule, seats, maxima, cap, parameters):
    many = len(holders_of(seats, rule[1]))
    descending = sorted(_seat_maxima(seats, maxima, rule[1]), reverse=True)
    filled = len(descending)
    for yeas in range(filled + 1):
        if simple_passes(rule, (many, yeas, filled - yeas, 0), parameters):
            return cap if yeas == 0 else min(cap, descending[yeas - 1])
    return 0


def _amount_tally(seats, maxima, amount, chamber):
    of_seats = _seat_maxima(seats, maxima, chamber)
    yeas = len([maximum for maximum in of_seats if maximum >= amount])
    return (len(holders_of(seats, chamber)), yeas, len(of_seats) - yeas, 0)


def _seat_maxima(seats, maxima, chamber):
    return [_maximum(maxima, holder) for holder in holders_of(seats, chamber) if holder is not None]


def _maximum(maxima, member):
    return maxima[member] if member < len(maxima) else 0
