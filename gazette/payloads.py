"""Whether payloads are correct in a state."""

from gazette.bills import is_valid_bill, is_valid_report, is_valid_statute, resulting_text
from gazette.petitions import qualifies
from gazette.reserves import settle
from gazette.rules import passes
from gazette.seats import apply_changes
from gazette.states import with_payments
from gazette.trees import children, is_consistent_table


def is_correct(charter, state, number, payload, cited):
    """Return whether a payload is correct for an entry type, in a state and with cited payloads."""
    if payload is None:
        return True
    kind = payload[0]
    if kind == "seats":
        return apply_changes(charter[0], state[0], payload[1])[1] is None
    if kind == "parameters":
        return all([index < len(charter[2]) for index, _ in payload[1]])
    if kind == "statute":
        return is_valid_statute(state[2], payload[1], _texts(cited))
    if kind == "bill":
        return is_valid_bill(payload, _flags(charter, state, number, payload))
    if kind == "report":
        bills = _of_kinds(cited, ("bill",))
        return len(bills) >= 2 and is_valid_report(payload, bills[0], bills[1])
    if kind == "budget":
        return _is_correct_budget(charter[4], state, payload[1])
    if kind == "payments":
        return _are_correct_payments(charter[4], state, payload[1])
    if kind == "appointment":
        premier = payload[1]
        return premier != state[5] and (premier is None or premier < charter[0])
    return qualifies(charter[7], payload[1])


def _of_kinds(cited, kinds):
    """Return the list of the cited payloads of these kinds."""
    return [payload for payload in cited if payload is not None and payload[0] in kinds]


def _texts(cited):
    """Return the list of the resulting texts of the cited bills and reports."""
    texts = [resulting_text(document) for document in _of_kinds(cited, ("bill", "report"))]
    return [text for text in texts if text is not None]


def _flags(charter, state, number, bill):
    """Return for each amendment of a bill whether its roll call passes the rule of the entry type."""
    seats, parameters, _, _, _, premier = state
    rule = charter[9][number][1]
    roll_calls = [roll_call for _, roll_call in bill[2]]
    return tuple([
        passes(rule, seats, roll_call, parameters=parameters, premier=premier) for roll_call in roll_calls
    ])


def _is_correct_budget(tree, state, rows):
    if not is_consistent_table(tree, rows):
        return False
    return _can_be_paid(tree, [row[0] for row in rows], state[4])


def _are_correct_payments(tree, state, payments):
    if any([node > len(tree) or len(children(tree, node)) > 0 for node, _ in payments]):
        return False
    return _can_be_paid(tree, state[3], with_payments(state[4], payments))


def _can_be_paid(tree, funds, claims):
    return settle(tree, funds, claims)[1] is not None
