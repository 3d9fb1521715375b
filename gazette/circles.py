"""Circles of entries that depend on each other, and the entries whose status does not depend on any."""

from heapq import heappop, heappush

from gazette.charters import edges
from gazette.entries import valid_under
from gazette.records import dependencies


def dependency_cycle(charter, record):
    """Return the reported circle and the numbers of its edges, or None if there is no circle."""
    circle = _first_circle(dependencies(charter, record))
    if circle is None:
        return None
    all_edges = [edge[:3] for edge in edges(charter)]
    numbers = []
    for entry, needed in zip(circle, circle[1:] + circle[:1]):
        numbers.append(all_edges.index(_edge_along(record, entry, needed)))
    return circle, tuple(numbers)


def determined(charter, record):
    """Return the status of each entry that is determined, and None for the others."""
    statuses = [None] * len(record)
    # The statuses of entries on which one does not depend make no difference to it.
    known = [False] * len(record)
    for entry in settled_order(dependencies(charter, record)):
        known[entry] = valid_under(charter, record, known, entry)
        statuses[entry] = known[entry]
    return tuple(statuses)


def settled_order(needs):
    """Return the list of the entries from which no circle can be reached.

    Each entry stands behind those that it needs, and at each place stands the lowest number that can.
    """
    needed_by = [[] for _ in needs]
    for entry, needed in enumerate(needs):
        for other in needed:
            needed_by[other].append(entry)
    missing = [len(others) for others in needs]
    ready = [entry for entry, many in enumerate(missing) if many == 0]
    order = []
    while ready:
        entry = heappop(ready)
        order.append(entry)
        for other in needed_by[entry]:
            missing[other] -= 1
            if missing[other] == 0:
                heappush(ready, other)
    return order


def _first_circle(needs):
    """Return the first one of the circles with the fewest entries, or None if there is no circle."""
    settled = settled_order(needs)
    circle = None
    for start in range(len(needs)):
        if start not in settled:
            found = _circle_from(needs, start)
            if found is not None and (circle is None or len(found) < len(circle)):
                circle = found
    return circle


def _circle_from(needs, lowest):
    """Return the first one of the circles with the fewest entries whose lowest number this is, or None.

    The paths from this entry are looked through by length, and those of equal length in their order.
    """
    reached = [lowest]
    path_to = {lowest: (lowest,)}
    done = 0
    while done < len(reached):
        entry = reached[done]
        if lowest in needs[entry]:
            return path_to[entry]
        for other in needs[entry]:
            if other > lowest and other not in path_to:
                path_to[other] = (*path_to[entry], other)
                reached.append(other)
        done += 1
    return None


def _edge_along(record, entry, needed):
    """Return source, target and kind of the edge along which an entry depends on another one."""
    kind = "basis" if needed < entry else record[needed][4][0]
    return (record[entry][0], record[needed][0], kind)
