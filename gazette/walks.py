"""Walks along the edges of a charter."""

from gazette.charters import edges, is_backward
from gazette.components import reached_from


def is_walk(charter, numbers):
    """Return whether the edges with these numbers are a walk."""
    walked = edges_at(charter, numbers)
    meeting = [edge[1] == following[0] for edge, following in zip(walked, walked[1:])]
    return len(walked) > 0 and all(meeting)


def slack(charter, numbers):
    """Return the sittings of the forward edges minus those of the backward edges."""
    return sum([edge_slack(edge) for edge in edges_at(charter, numbers)])


def reached(charter):
    """Return for each entry type the types that it reaches, ascending."""
    all_edges = edges(charter)
    return tuple([reached_from(start, all_edges) for start in range(len(charter[9]))])


def edges_at(charter, numbers):
    """Return the list of the edges with these numbers."""
    all_edges = edges(charter)
    return [all_edges[number] for number in numbers]


def edge_slack(edge):
    """Return what an edge adds to the slack of a walk."""
    return -edge[3] if is_backward(edge) else edge[3]
