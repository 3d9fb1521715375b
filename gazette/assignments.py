"""All consistent statuses of a record."""

from gazette.circles import determined
from gazette.entries import valid_under
from gazette.errors import TooManyOpen

MOST_OPEN = 8


def assignments(charter, record):
    """Return all consistent statuses, those with True at the first difference first."""
    statuses = determined(charter, record)
    left = [entry for entry, status in enumerate(statuses) if status is None]
    if len(left) > MOST_OPEN:
        raise TooManyOpen(len(left))
    candidates = [_filled(statuses, choice) for choice in _choices(len(left))]
    return tuple([candidate for candidate in candidates if _agrees(charter, record, candidate, left)])


def _choices(many):
    """Return all tuples of so many statuses, in the order in which they are tried."""
    choices = [()]
    for _ in range(many):
        choices = [(*choice, status) for choice in choices for status in (True, False)]
    return choices


def _filled(statuses, choice):
    """Return the statuses with those of a choice in the places of the entries that are not determined."""
    filled = []
    used = 0
    for status in statuses:
        if status is None:
            filled.append(choice[used])
            used += 1
        else:
            filled.append(status)
    return tuple(filled)


def _agrees(charter, record, statuses, left):
    # The entries that are determined have the right statuses in any case.
    return all([valid_under(charter, record, statuses, entry) == statuses[entry] for entry in left])
