"""Which types reach each other along edges, and the edges within a strongly connected component."""

from gazette.charters import is_backward


def reached_from(start, some_edges):
    """Return the types that a type reaches along edges, itself included, ascending."""
    found = [start]
    done = 0
    while done < len(found):
        for source, target, _, _ in some_edges:
            if source == found[done] and target not in found:
                found.append(target)
        done += 1
    return tuple(sorted(found))


def edges_within(start, some_edges):
    """Return the list of the edges within the strongly connected component of a type."""
    reached = reached_from(start, some_edges)
    component = [other for other in reached if start in reached_from(other, some_edges)]
    return [edge for edge in some_edges if edge[0] in component and edge[1] in component]


def direction_of(some_edges):
    """Return "backward" if all edges are, or there are none; "forward" if all are; otherwise "mixed"."""
    backward = [is_backward(edge) for edge in some_edges]
    if all(backward):
        return "backward"
    return "mixed" if any(backward) else "forward"
