"""Charters: whether they are valid, and how their entry types depend on each other."""

from gazette.errors import BadAmounts, BadDependency, BadPremier, BadRule, BadSeats, MissingDependency
from gazette.rules import named, passes
from gazette.seats import is_seating

EDGE_KINDS = ("basis", "annul", "cure", "ratify")
# The payload kinds whose entries change each component of the state.
WRITING_KINDS = {
    "seats": ("seats",),
    "parameters": ("parameters",),
    "statutes": ("statute",),
    "treasury": ("budget", "payments"),
    "premier": ("appointment",),
}


def check_charter(charter):
    """Refuse a charter that is not valid."""
    members, seats, _, _, tree, appropriations, premier, _, _, entry_types = charter
    if not is_seating(members, seats):
        raise BadSeats("the seats are not a valid seating")
    if len(appropriations) != len(tree) + 1:
        raise BadAmounts("the appropriations do not have one item for each node")
    if premier >= members:
        raise BadPremier("the premier is not a member")
    for number in range(len(entry_types)):
        if not _has_fitting_dependencies(entry_types, number):
            raise BadDependency(number)
        if not _is_based_on_writers(charter, number):
            raise MissingDependency(number)
        if not _has_fitting_rule(charter, number):
            raise BadRule(number)


def edges(charter):
    """Return all edges of a charter, in the order of their numbers."""
    found = []
    for source, entry_type in enumerate(charter[9]):
        for kind, pairs in zip(EDGE_KINDS, entry_type[2:]):
            found.extend([(source, target, kind, sittings) for target, sittings in pairs])
    return tuple(found)


def is_backward(edge):
    """Return whether an edge refers to earlier entries."""
    return edge[2] == "basis"


def named_types(charter, number, kind):
    """Return a dict with the types that a type names for edges of a kind, and their sittings."""
    pairs = charter[9][number][2 + EDGE_KINDS.index(kind)]
    return {target: sittings for target, sittings in pairs}


def writers(charter, component):
    """Return the writers of a component of the state, ascending."""
    kinds = WRITING_KINDS[component]
    return tuple([number for number, entry_type in enumerate(charter[9]) if entry_type[0] in kinds])


def pivotal_member(charter, number):
    """Return the member whose yea, after those of all with lower numbers, makes the rule of a type pass."""
    return [member for member in range(charter[0]) if _passes_with(charter, number, member + 1)][0]


def _has_fitting_dependencies(entry_types, number):
    _, _, basis, annulled, cured, ratified = entry_types[number]
    for pairs in (basis, annulled, cured, ratified):
        others = [other for other, _ in pairs]
        if len(set(others)) < len(others) or any([other >= len(entry_types) for other in others]):
            return False
    return not any([entry_types[other][5] for other, _ in ratified])


def _is_based_on_writers(charter, number):
    payload, _, basis, _, _, _ = charter[9][number]
    for component, kinds in WRITING_KINDS.items():
        if payload in kinds:
            return all([(writer, 0) in basis for writer in writers(charter, component)])
    return True


def _has_fitting_rule(charter, number):
    members, seats, parameters = charter[:3]
    chambers, parameter_numbers = named(charter[9][number][1])
    if any([chamber >= len(seats) for chamber in chambers]):
        return False
    if any([index >= len(parameters) for index in parameter_numbers]):
        return False
    return _passes_with(charter, number, members) and not _passes_with(charter, number, 0)


def _passes_with(charter, number, yeas):
    """Return whether the rule of a type passes if the first members vote yea and all others are absent."""
    seats, parameters, premier = charter[1], charter[2], charter[6]
    rule = charter[9][number][1]
    return passes(rule, seats, "Y" * yeas, parameters=parameters, premier=premier)
