"""Rankings of the entry types, which prove that a charter is safe."""

from gazette.charters import edges, is_backward


def verify_ranking(charter, ranking):
    """Return whether a ranking has one row for each entry type and every edge respects it."""
    many = len(charter[9])
    if len(ranking) != many:
        return False
    return all([_respects(edge, ranking[edge[0]], ranking[edge[1]], many + 1) for edge in edges(charter)])


def _respects(edge, row, target_row, scale):
    """Return whether an edge respects the rows of its source and of its target."""
    component, direction, potential = row
    target_component, target_direction, target_potential = target_row
    if target_component != component:
        return target_component < component
    if target_direction != direction:
        return False
    if direction != "mixed":
        return is_backward(edge) == (direction == "backward")
    if is_backward(edge):
        return target_potential <= potential + scale * edge[3]
    return target_potential + scale * edge[3] + 1 <= potential
