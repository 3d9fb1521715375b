"""The validity of records without circles, and what follows from it."""

from gazette.circles import dependency_cycle, determined, settled_order
from gazette.entries import revised
from gazette.errors import CircularRecord
from gazette.records import dependencies
from gazette.reserves import settle
from gazette.states import state_after


def is_consistent(charter, record, statuses):
    """Return whether exactly the entries that are valid under the statuses are assigned valid."""
    return len(statuses) == len(record) and revised(charter, record, statuses) == statuses


def rounds(charter, record, statuses):
    """Yield the statuses after each round of revising, as many as there are entries."""
    for _ in range(len(record)):
        statuses = revised(charter, record, statuses)
        yield statuses


def evaluation_order(charter, record):
    """Return the evaluation order, or None if the record has a circle."""
    order = settled_order(dependencies(charter, record))
    return tuple(order) if len(order) == len(record) else None


def validity(charter, record):
    """Return the validity of a record without circles."""
    statuses = determined(charter, record)
    if None in statuses:
        raise CircularRecord(dependency_cycle(charter, record)[0])
    return statuses


def final_state(charter, record):
    """Return the final state of a record without circles."""
    return reported_state(charter, record, validity(charter, record))


def reported_state(charter, record, statuses):
    """Return the state after a record with its validity, with the remaining funds of each node."""
    seats, parameters, statutes, appropriated, spent, premier = state_after(charter, record, statuses)
    _, remaining, _ = settle(charter[4], appropriated, spent)
    return (seats, parameters, statutes, remaining, premier)


def was_valid(charter, record, length, entry):
    """Return whether an entry was valid when the record had this length."""
    return validity(charter, record[:length])[entry]


def history(charter, record, entry):
    """Return the lengths at which the validity of an entry was new, each with the validity."""
    changes = []
    # A circle of the first entries is one of the whole record, but it need not be the reported one.
    validity(charter, record)
    for length in range(entry + 1, len(record) + 1):
        valid = was_valid(charter, record, length, entry)
        if not changes or changes[-1][1] != valid:
            changes.append((length, valid))
    return tuple(changes)


def changed(before, after):
    """Return the numbers of the entries whose validity differs; entries that are new were not valid before."""
    earlier = before + (False,) * (len(after) - len(before))
    return tuple([number for number, (old, new) in enumerate(zip(earlier, after)) if old != new])
