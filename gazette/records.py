"""Records: whether they are records of a charter, and which of their entries depend on which."""

from gazette.charters import named_types
from gazette.errors import BadEntry, SittingOutOfOrder


def check_record(charter, record):
    """Refuse what is not a record of a charter."""
    for number in range(len(record)):
        reason = _fault(charter, record, number)
        if reason is not None:
            raise BadEntry(number, reason)
    for number in range(1, len(record)):
        if record[number][1] < record[number - 1][1]:
            raise SittingOutOfOrder(number)


def backward(charter, record, entry):
    """Return the entries on which an entry depends backward, ascending."""
    delays = named_types(charter, record[entry][0], "basis")
    sitting = record[entry][1]
    named = [(number, earlier) for number, earlier in enumerate(record[:entry]) if earlier[0] in delays]
    return tuple([number for number, earlier in named if earlier[1] + delays[earlier[0]] <= sitting])


def forward(charter, record, entry):
    """Return the entries on which an entry depends forward, ascending."""
    found = []
    for action in ("annul", "cure", "ratify"):
        found.extend(acting(charter, record, entry, action))
    return tuple(sorted(found))


def acting(charter, record, entry, action):
    """Return the entries that annul, cure or ratify an entry, valid or not, ascending."""
    deadlines = named_types(charter, record[entry][0], action)
    sitting = record[entry][1]
    aiming = [(number, later) for number, later in enumerate(record) if later[4] == (action, entry)]
    named = [(number, later) for number, later in aiming if later[0] in deadlines]
    return tuple([number for number, later in named if later[1] <= sitting + deadlines[later[0]]])


def needed(charter, record, entry):
    """Return the entries on which an entry depends, ascending."""
    return backward(charter, record, entry) + forward(charter, record, entry)


def dependencies(charter, record):
    """Return a list with the entries on which each entry depends."""
    return [needed(charter, record, entry) for entry in range(len(record))]


def _fault(charter, record, number):
    """Return the first reason for which an entry is bad, or None."""
    entry_type, _, roll_call, basis, effect, payload = record[number]
    members, entry_types = charter[0], charter[9]
    if entry_type >= len(entry_types):
        return "type"
    if len(roll_call) != members:
        return "roll call"
    if len(basis) != len(entry_types[entry_type][2]):
        return "basis"
    if any([item is not None and item >= number for item in basis]):
        return "basis"
    if effect is not None and effect[1] >= number:
        return "effect"
    if payload is not None and not _fits(payload, entry_types[entry_type][0], members):
        return "payload"
    return None


def _fits(payload, kind, members):
    """Return whether a payload has the kind that is asked, and roll calls of all members."""
    if payload[0] != kind:
        return False
    return kind != "bill" or all([len(roll_call) == members for _, roll_call in payload[2]])
