"""How much later the entries are that can change the validity of an entry."""

from gazette.charters import edges, is_backward
from gazette.cycles import check_safe
from gazette.slacks import greatest_slacks, rising_types
from gazette.walks import edge_slack, reached

UNBOUNDED = "unbounded"


def slack_bounds(charter):
    """Return the slack bounds of each entry type."""
    many, all_edges = len(charter[9]), edges(charter)
    rising = rising_types(many, all_edges)
    most = greatest_slacks(many, all_edges)
    forward = _forward_slacks(most, all_edges)
    bounds = []
    for number, types in enumerate(reached(charter)):
        is_bounded = not any([other in rising for other in types])
        bounds.append((most[number], forward[number]) if is_bounded else (UNBOUNDED, UNBOUNDED))
    return tuple(bounds)


def verify_bounds(charter, bounds):
    """Return whether bounds are verified for the charter."""
    if len(bounds) != len(charter[9]) or any([_is_less(most, 0) for most, _ in bounds]):
        return False
    return all([_respects(edge, bounds[edge[0]], bounds[edge[1]]) for edge in edges(charter)])


def finality(charter):
    """Return for each entry type of a safe charter "immediate", a number of sittings, or "never"."""
    check_safe(charter)
    return tuple([_finality_of(forward) for _, forward in slack_bounds(charter)])


def _forward_slacks(most, all_edges):
    """Return for each type the greatest slack of the walks that have a forward edge, or None."""
    found = [None] * len(most)
    # The edges before the first forward edge lead through different types.
    for _ in most:
        for edge in all_edges:
            rest = found[edge[1]] if is_backward(edge) else most[edge[1]]
            slack = _plus(rest, edge_slack(edge))
            if _is_less(found[edge[0]], slack):
                found[edge[0]] = slack
    return found


def _finality_of(forward):
    if forward == UNBOUNDED:
        return "never"
    return "immediate" if _is_less(forward, 0) else forward


def _respects(edge, bound, target_bound):
    """Return whether an edge respects the pair of its source and that of its target."""
    shift = edge_slack(edge)
    needed = _plus(target_bound[0], shift)
    needed_forward = _plus(target_bound[1], shift) if is_backward(edge) else needed
    return not _is_less(bound[0], needed) and not _is_less(bound[1], needed_forward)


def _plus(item, number):
    return item if item is None or item == UNBOUNDED else item + number


def _is_less(first, second):
    return _height(first) < _height(second)


def _height(item):
    """Return a pair by which items are compared: None is the least one, "unbounded" the greatest one."""
    if item is None:
        return (0, 0)
    return (2, 0) if item == UNBOUNDED else (1, item)
