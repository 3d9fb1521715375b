"""The state of the legislature, and how payloads change it."""

from gazette.edits import apply_edits
from gazette.records import backward
from gazette.seats import set_holders


def start_state(charter):
    """Return the state at the start."""
    _, seats, parameters, statutes, _, appropriations, premier, _, _, _ = charter
    return (seats, parameters, statutes, appropriations, (0,) * len(appropriations), premier)


def apply_payload(state, payload):
    """Return the state after a payload has been applied, correct or not."""
    if payload is None:
        return state
    seats, parameters, statutes, appropriated, spent, premier = state
    kind = payload[0]
    if kind == "seats":
        seats = set_holders(seats, payload[1])
    elif kind == "parameters":
        parameters = _with_values(parameters, payload[1])
    elif kind == "statute":
        statutes = _with_edits(statutes, payload[1])
    elif kind == "budget":
        appropriated = _from_rows(payload[1], len(appropriated))
    elif kind == "payments":
        spent = with_payments(spent, payload[1])
    elif kind == "appointment":
        premier = payload[1]
    return (seats, parameters, statutes, appropriated, spent, premier)


def state_after(charter, record, statuses):
    """Return the state after a record of which the entries with the status True count."""
    return _state_of(charter, record, [entry for entry in range(len(record)) if statuses[entry]])


def observed_state(charter, record, statuses, entry):
    """Return the state that an entry observes."""
    return _state_of(charter, record, [other for other in backward(charter, record, entry) if statuses[other]])


def with_payments(spent, payments):
    """Return the amounts spent after payments have been added; those at nodes that do not exist are ignored."""
    amounts = list(spent)
    for node, amount in payments:
        if node < len(amounts):
            amounts[node] += amount
    return tuple(amounts)


def _state_of(charter, record, entries):
    """Return the state at the start with the payloads of these entries applied in order."""
    state = start_state(charter)
    for entry in entries:
        state = apply_payload(state, record[entry][5])
    return state


def _with_values(parameters, pairs):
    values = list(parameters)
    for index, value in pairs:
        if index < len(values):
            values[index] = value
    return tuple(values)


def _with_edits(statutes, edits):
    result = apply_edits(statutes, edits)
    return statutes if result is None else result


def _from_rows(rows, nodes):
    return tuple([rows[node][0] if node < len(rows) else 0 for node in range(nodes)])
