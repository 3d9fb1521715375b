"""Whether a charter is safe: its reported ranking or its reported cycle."""

from gazette.charters import edges
from gazette.components import direction_of, edges_within
from gazette.errors import UnsafeCharter
from gazette.rankings import reported_ranking
from gazette.slacks import BOTH, NOTHING, first_walk, greatest_slacks, longer, reaches, rising_types
from gazette.walks import edge_slack, edges_at, is_walk, reached, slack


def analyze(charter):
    """Return the reported ranking and None for a safe charter, otherwise None and the reported cycle."""
    starts = _unsafe_starts(charter)
    if starts:
        return None, _reported_cycle(edges(charter), starts)
    return reported_ranking(charter), None


def check_safe(charter):
    """Refuse a charter that is not safe."""
    cycle = analyze(charter)[1]
    if cycle is not None:
        raise UnsafeCharter(cycle)


def verify_cycle(charter, numbers):
    """Return whether the edges with these numbers are an unsafe cycle."""
    if not is_walk(charter, numbers):
        return False
    walked = edges_at(charter, numbers)
    is_closed = walked[0][0] == walked[-1][1]
    return is_closed and direction_of(walked) == "mixed" and slack(charter, numbers) >= 0


def determinate_types(charter):
    """Return for each entry type whether it reaches no type at which an unsafe cycle starts."""
    starts = _unsafe_starts(charter)
    return tuple([not any([start in types for start in starts]) for types in reached(charter)])


def _unsafe_starts(charter):
    """Return the list of the types at which unsafe cycles of any length start."""
    many, all_edges = len(charter[9]), edges(charter)
    rising = rising_types(many, all_edges)
    return [start for start in range(many) if _starts_unsafe_cycle(start, many, all_edges, rising)]


def _starts_unsafe_cycle(start, many, all_edges, rising):
    inner = edges_within(start, all_edges)
    if direction_of(inner) != "mixed":
        return False
    # A closed walk along all of these edges makes up for its delays by going around where the slack rises.
    if any([edge[0] in rising for edge in inner]):
        return True
    # Otherwise no closed walk has a slack above 0, and those with the slack 0 have only edges that
    # lose nothing against the greatest slacks.
    most = greatest_slacks(many, inner)
    tight = [edge for edge in inner if most[edge[0]] == most[edge[1]] + edge_slack(edge)]
    return direction_of(edges_within(start, tight)) == "mixed"


def _reported_cycle(all_edges, starts):
    """Return the first one of the unsafe cycles with the fewest edges, of which there are some."""
    layers = {start: [{(start, NOTHING): 0}] for start in starts}
    cycles = []
    while not cycles:
        for start in starts:
            layers[start].append(longer(layers[start][-1], all_edges))
        closing = [start for start in starts if reaches(layers[start][-1], (start, BOTH), 0)]
        cycles = [first_walk(all_edges, layers[start], (start, BOTH), 0) for start in closing]
    return min(cycles)
