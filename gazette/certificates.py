"""Certificates for the status of single entries, and the impact of a new entry."""

from gazette.circles import determined
from gazette.constructions import plain_entry, with_ratification
from gazette.entries import valid_under
from gazette.errors import NotDetermined
from gazette.records import needed
from gazette.validity import changed, validity


def closure(charter, record, entry):
    """Return the closure of an entry, ascending."""
    found = [entry]
    done = 0
    while done < len(found):
        for other in needed(charter, record, found[done]):
            if other not in found:
                found.append(other)
        done += 1
    return tuple(sorted(found))


def certificate(charter, record, entry):
    """Return the certificate of an entry that is determined."""
    statuses = determined(charter, record)
    if statuses[entry] is None:
        raise NotDetermined(entry)
    return certified(charter, record, entry, statuses)


def certified(charter, record, entry, statuses):
    """Return the closure of an entry, each of its entries with its status."""
    return tuple([(number, statuses[number]) for number in closure(charter, record, entry)])


def verify_certificate(charter, record, entry, certificate):
    """Return whether a certificate is accepted for an entry."""
    listed = [number for number, _ in certificate]
    if listed != sorted(set(listed)) or entry not in listed:
        return False
    if not all([other in listed for number in listed for other in needed(charter, record, number)]):
        return False
    statuses = [False] * len(record)
    for number, valid in certificate:
        statuses[number] = valid
    return all([valid_under(charter, record, statuses, number) == valid for number, valid in certificate])


def impact(charter, record, number, action, entry):
    """Return the impact of a new entry of a type with an action on an entry of the record."""
    new = plain_entry(charter, number, record[-1][1], (action, entry))
    after = validity(charter, record + with_ratification(charter, new, len(record)))
    return changed(validity(charter, record), after)
