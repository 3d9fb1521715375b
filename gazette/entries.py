"""Whether entries are valid under statuses, and what stands against them."""

from gazette.payloads import is_correct
from gazette.records import acting
from gazette.rules import passes
from gazette.states import observed_state


def cited(charter, record, statuses, entry):
    """Return the numbers of the entries that an entry cites, in the order of its basis."""
    basis = record[entry][3]
    good = [item for place, item in enumerate(basis) if is_good(charter, record, statuses, entry, place)]
    return tuple([item for item in good if item is not None])


def is_good(charter, record, statuses, entry, place):
    """Return whether the item at a place of the basis of an entry is good."""
    item = record[entry][3][place]
    if item is None:
        return True
    named, delay = charter[9][record[entry][0]][2][place]
    # The item is an earlier entry, so its type and its sitting tell whether the entry depends on it.
    return statuses[item] and record[item][0] == named and record[item][1] + delay <= record[entry][1]


def is_procedural(charter, record, statuses, entry):
    """Return whether an entry is procedurally valid."""
    state = observed_state(charter, record, statuses, entry)
    return len(_procedural_objections(charter, record, statuses, entry, state)) == 0


def is_substantive(charter, record, statuses, entry):
    """Return whether an entry is substantively valid."""
    state = observed_state(charter, record, statuses, entry)
    return _has_correct_payload(charter, record, statuses, entry, state)


def valid_under(charter, record, statuses, entry):
    """Return whether an entry is valid under the statuses."""
    return len(objections(charter, record, statuses, entry)) == 0


def objections(charter, record, statuses, entry):
    """Return the objections to an entry under the statuses."""
    state = observed_state(charter, record, statuses, entry)
    found = []
    if not _has_correct_payload(charter, record, statuses, entry, state):
        found.append(("payload",))
    if not _acting_validly(charter, record, statuses, entry, "cure"):
        found.extend(_procedural_objections(charter, record, statuses, entry, state))
    must_be_ratified = len(charter[9][record[entry][0]][5]) > 0
    if must_be_ratified and not _acting_validly(charter, record, statuses, entry, "ratify"):
        found.append(("ratification",))
    found.extend([("annulled", number) for number in _acting_validly(charter, record, statuses, entry, "annul")])
    return tuple(found)


def revised(charter, record, statuses):
    """Return the revised statuses."""
    return tuple([valid_under(charter, record, statuses, entry) for entry in range(len(record))])


def _acting_validly(charter, record, statuses, entry, action):
    """Return the list of the entries that are assigned valid and annul, cure or ratify an entry."""
    return [number for number in acting(charter, record, entry, action) if statuses[number]]


def _has_correct_payload(charter, record, statuses, entry, state):
    payloads = tuple([record[number][5] for number in cited(charter, record, statuses, entry)])
    return is_correct(charter, state, record[entry][0], record[entry][5], payloads)


def _procedural_objections(charter, record, statuses, entry, state):
    """Return the list of the objections to the basis and to the roll call of an entry."""
    number, _, roll_call, basis, _, _ = record[entry]
    found = []
    for place in range(len(basis)):
        if not is_good(charter, record, statuses, entry, place):
            found.append(("basis", place))
    seats, parameters, _, _, _, premier = state
    if not passes(charter[9][number][1], seats, roll_call, parameters=parameters, premier=premier):
        found.append(("roll call",))
    return found
