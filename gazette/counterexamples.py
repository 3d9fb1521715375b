"""Records that show what can happen under a charter that is not safe."""

from gazette.charters import is_backward
from gazette.constructions import entries_along, ranks_along, sittings_along
from gazette.cycles import analyze, verify_cycle
from gazette.errors import NotUnsafe
from gazette.walks import edges_at


def counterexample_of(charter, numbers):
    """Return the counterexample of an unsafe cycle and its consistent statuses, none or two."""
    if not verify_cycle(charter, numbers):
        raise NotUnsafe("the edges are not an unsafe cycle")
    walked = edges_at(charter, numbers)
    many_backward = len([edge for edge in walked if is_backward(edge)])
    ranks = ranks_along(walked, many_backward, len(walked) - many_backward)
    record, of_entries = entries_along(charter, walked, sittings_along(_steps(walked)), ranks, True)
    return record, _consistent(walked, of_entries, len(record))


def counterexample(charter):
    """Return the counterexample of the reported cycle and its consistent statuses, or None."""
    cycle = analyze(charter)[1]
    return None if cycle is None else counterexample_of(charter, cycle)


def _steps(walked):
    """Return by how many sittings each edge leads to a later entry."""
    left = sum([edge[3] for edge in walked if is_backward(edge)])
    steps = []
    for edge in walked:
        if is_backward(edge):
            steps.append(-edge[3])
        else:
            steps.append(min(edge[3], left))
            left -= steps[-1]
    return steps


def _consistent(walked, of_entries, many):
    """Return the consistent statuses; `of_entries` has the numbers of the cycle entries in the record."""
    annulling = [edge[2] == "annul" for edge in walked]
    if annulling.count(True) % 2 == 1:
        return ()
    # The ratifications are valid in both.
    one, other = [True] * many, [True] * many
    status = True
    for number, turns in zip(of_entries, annulling):
        one[number], other[number] = status, not status
        status = status != turns
    return (tuple(one), tuple(other)) if one[0] else (tuple(other), tuple(one))
