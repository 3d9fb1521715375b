"""Entries that are made so that they depend on each other along the edges of a walk."""

from gazette.charters import is_backward


def plain_entry(charter, number, sitting, effect):
    """Return an entry of a type without a basis and a payload, on which all members vote yea."""
    basis = (None,) * len(charter[9][number][2])
    return (number, sitting, "Y" * charter[0], basis, effect, None)


def with_ratification(charter, entry, number):
    """Return an entry that has this number, followed by one that ratifies it if its type requires that."""
    ratified = charter[9][entry[0]][5]
    if not ratified:
        return (entry,)
    return (entry, plain_entry(charter, ratified[0][0], entry[1], ("ratify", number)))


def sums(steps):
    """Return the sum of the first steps, from none to all of them."""
    found = [0]
    for step in steps:
        found.append(found[-1] + step)
    return found


def ranks_along(walked, rise, fall):
    """Return the ranks of entries that rise with each forward and fall with each backward edge."""
    return sums([-fall if is_backward(edge) else rise for edge in walked])


def sittings_along(steps):
    """Return the sittings of entries that follow each other with these steps, the least one 0."""
    unshifted = sums(steps)
    least = min(unshifted)
    return [sitting - least for sitting in unshifted]


def entries_along(charter, walked, sittings, ranks, is_closed):
    """Return the entries along the edges of a walk with their ratifications, and the number of each.

    Entry i depends along edge i on entry i + 1, in a closed walk the last entry on entry 0. Sorted
    by sitting and rank, each entry stands behind all that it refers to.
    """
    entries = []
    numbers = [0] * len(walked)
    for sitting, _, index in sorted([(sittings[index], ranks[index], index) for index in range(len(walked))]):
        numbers[index] = len(entries)
        entry = _entry_along(charter, walked, index, sitting, numbers, is_closed)
        if walked[index][2] == "ratify":
            entries.append(entry)
        else:
            entries.extend(with_ratification(charter, entry, numbers[index]))
    return tuple(entries), numbers


def _entry_along(charter, walked, index, sitting, numbers, is_closed):
    edge = walked[index]
    source, target, kind, _ = edge
    roll_call = ("-" if kind == "cure" else "Y") * charter[0]
    basis = [None] * len(charter[9][source][2])
    if is_backward(edge):
        named = [other for other, _ in charter[9][source][2]]
        basis[named.index(target)] = numbers[(index + 1) % len(walked)]
    effect = None
    # In a closed walk the last edge, which has the index -1, leads to entry 0.
    if (index > 0 or is_closed) and not is_backward(walked[index - 1]):
        effect = (walked[index - 1][2], numbers[index - 1])
    return (source, sitting, roll_call, tuple(basis), effect, None)
