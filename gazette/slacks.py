"""The greatest slacks of walks, and the first walks that have them."""

from gazette.charters import is_backward
from gazette.walks import edge_slack

# What a walk needs to have: whether a backward edge, and whether a forward edge.
NOTHING = (False, False)
FORWARD = (False, True)
BOTH = (True, True)
NEEDS = ((False, False), (True, False), (False, True), (True, True))


def longer(best, some_edges):
    """Return the greatest slacks of the walks that have one edge more.

    The keys of `best` are pairs of the first type of a walk and what it needs to have; a pair
    without such a walk is left out.
    """
    found = {}
    for edge in some_edges:
        for needs in NEEDS:
            rest = (edge[1], _left_of(needs, edge))
            if rest in best:
                slack = best[rest] + edge_slack(edge)
                key = (edge[0], needs)
                found[key] = max(slack, found.get(key, slack))
    return found


def reaches(best, key, least):
    """Return whether there is a walk for a key with a slack of at least `least`."""
    return key in best and best[key] >= least


def first_walk(all_edges, layers, key, least):
    """Return the numbers of the first walk for a key with a slack of at least `least`.

    There is such a walk; it has as many edges as there are layers behind layer 0. Layer k has the
    greatest slacks of the walks with k edges.
    """
    numbers = []
    for best in layers[-2::-1]:
        leading = [number for number, edge in enumerate(all_edges) if _leads_on(best, edge, key, least)]
        step = all_edges[leading[0]]
        numbers.append(leading[0])
        key = (step[1], _left_of(key[1], step))
        least -= edge_slack(step)
    return tuple(numbers)


def rising_types(many, all_edges):
    """Return the types at which a closed walk with a slack above 0 and no more edges than types starts."""
    return [start for start in range(many) if _is_rising(start, many, all_edges)]


def greatest_slacks(many, some_edges):
    """Return for each of so many types the greatest one of 0 and the slacks of the walks that start at it.

    Where these slacks are not bounded, what is returned means nothing.
    """
    most = [0] * many
    for _ in range(many):
        for edge in some_edges:
            most[edge[0]] = max(most[edge[0]], most[edge[1]] + edge_slack(edge))
    return most


def _left_of(needs, edge):
    """Return what the rest of a walk needs to have behind an edge."""
    backward, forward = needs
    return (backward and not is_backward(edge), forward and is_backward(edge))


def _leads_on(best, edge, key, least):
    """Return whether a walk for a key can begin with an edge and go on as told by the layer `best`."""
    start, needs = key
    return edge[0] == start and reaches(best, (edge[1], _left_of(needs, edge)), least - edge_slack(edge))


def _is_rising(start, many, all_edges):
    best = {(start, NOTHING): 0}
    for _ in range(many):
        best = longer(best, all_edges)
        if reaches(best, (start, NOTHING), 1):
            return True
    return False
