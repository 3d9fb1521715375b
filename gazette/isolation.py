"""Voting rules in isolation: one chamber of different members, and no premier."""

from gazette.rules import evaluate


def passes_at(rule, size, counts, *, parameters=()):
    """Return whether a rule passes in isolation at the counts `(yeas, nays, present)`."""
    counted = (size, *counts)
    return evaluate(rule, lambda chamber: counted, False, parameters)


def no_show(rule, size, *, parameters=()):
    """Return the first counts at which a nay would do better to stay away, or None."""
    for yeas, nays, present in _all_counts(size):
        if nays > 0 and passes_at(rule, size, (yeas, nays, present), parameters=parameters):
            if not passes_at(rule, size, (yeas, nays - 1, present), parameters=parameters):
                return (yeas, nays, present)
    return None


def pairing(rule, size, *, parameters=()):
    """Return the first counts at which one yea and one nay less change the result, or None."""
    for yeas, nays, present in _all_counts(size):
        if yeas > 0 and nays > 0:
            unpaired = passes_at(rule, size, (yeas - 1, nays - 1, present), parameters=parameters)
            if unpaired != passes_at(rule, size, (yeas, nays, present), parameters=parameters):
                return (yeas, nays, present)
    return None


def parting_counts(first, second, size, *, parameters=()):
    """Return the first counts at which exactly one of two rules passes, or None."""
    for counts in _all_counts(size):
        passing = passes_at(first, size, counts, parameters=parameters)
        if passing != passes_at(second, size, counts, parameters=parameters):
            return counts
    return None


def _all_counts(size):
    return [
        (yeas, nays, present)
        for yeas in range(size + 1)
        for nays in range(size - yeas + 1)
        for present in range(size - yeas - nays + 1)
    ]
