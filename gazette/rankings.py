"""Rankings of the entry types, which prove that a charter is safe."""

from gazette.charters import edges, is_backward
from gazette.components import direction_of, edges_within, reached_from


def verify_ranking(charter, ranking):
    """Return whether a ranking has one row for each entry type and every edge respects it."""
    many = len(charter[9])
    if len(ranking) != many:
        return False
    return all([_respects(edge, ranking[edge[0]], ranking[edge[1]], many + 1) for edge in edges(charter)])


def reported_ranking(charter):
    """Return the reported ranking of a safe charter."""
    all_edges = edges(charter)
    many = len(charter[9])
    return tuple([_reported_row(number, many, all_edges) for number in range(many)])


def _respects(edge, row, target_row, scale):
    """Return whether an edge respects the rows of its source and of its target."""
    component, direction, potential = row
    target_component, target_direction, target_potential = target_row
    if target_component != component:
        return target_component < component
    if target_direction != direction:
        return False
    if direction != "mixed":
        return is_backward(edge) == (direction == "backward")
    return target_potential <= potential + _weight(edge, scale)


def _reported_row(number, many, all_edges):
    inner = edges_within(number, all_edges)
    direction = direction_of(inner)
    potential = _potential(number, many, inner) if direction == "mixed" else 0
    return (len(reached_from(number, all_edges)), direction, potential)


def _potential(number, many, inner):
    """Return the least one of 0 and the weights of the walks along these edges that end at a type."""
    least = [0] * many
    for _ in range(many):
        for edge in inner:
            least[edge[1]] = min(least[edge[1]], least[edge[0]] + _weight(edge, many + 1))
    return least[number]


def _weight(edge, scale):
    return scale * edge[3] if is_backward(edge) else -scale * edge[3] - 1
