"""The latest entries that reverse the validity of an entry."""

from gazette.bounds import finality
from gazette.charters import edges
from gazette.constructions import entries_along, plain_entry, ranks_along, sittings_along, with_ratification
from gazette.slacks import FORWARD, NOTHING, first_walk, longer, reaches
from gazette.walks import edge_slack, edges_at


def reversal_walk(charter, number, *, sitting=0):
    """Return the reversal walk of an entry type, or None if it is final immediately."""
    end = finality(charter)[number]
    if end == "immediate":
        return None
    return _first_forward_walk(charter, number, sitting if end == "never" else end)


def latest_reversal(charter, number, *, sitting=0):
    """Return the record of the reversal, the number of walk entry 0 and the appended entries, or None."""
    numbers = reversal_walk(charter, number, sitting=sitting)
    if numbers is None:
        return None
    walked = edges_at(charter, numbers)
    sittings = sittings_along([edge_slack(edge) for edge in walked])
    record, of_entries = entries_along(charter, walked, sittings, ranks_along(walked, 1, 1), False)
    _, target, kind, _ = walked[-1]
    last = plain_entry(charter, target, sittings[-1], (kind, of_entries[-1]))
    return record, of_entries[0], with_ratification(charter, last, len(record))


def _first_forward_walk(charter, number, least):
    """Return the first one of the walks with a forward edge, enough slack and the fewest edges."""
    all_edges = edges(charter)
    layers = [{(start, NOTHING): 0 for start in range(len(charter[9]))}]
    while not reaches(layers[-1], (number, FORWARD), least):
        layers.append(longer(layers[-1], all_edges))
    return first_walk(all_edges, layers, (number, FORWARD), least)
