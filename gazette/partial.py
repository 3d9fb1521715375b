"""Budget trees of which only some totals are known."""

from gazette.trees import children, descendants


def complete(tree, known):
    """Return the node of a conflict, the ranges of all totals, and the own amounts of the first completion."""
    below, conflict = _ranges_below(tree, known)
    if conflict is not None:
        return conflict, None, None
    return None, _ranges(tree, below), _first_completion(tree, below)


def nearest_known(tree, known, node):
    """Return the nearest known nodes below a node, ascending."""
    seen = _seen_from(tree, known, node)
    return tuple([other for other in seen if other != node and known[other] is not None])


def open_leaves(tree, known, node):
    """Return the leaves that are open below a node, ascending."""
    leaves = [other for other in _seen_from(tree, known, node) if other not in tree]
    return tuple([leaf for leaf in leaves if leaf == node or known[leaf] is None])


def _sum_ranges(ranges):
    highs = [high for _, high in ranges]
    return (sum([low for low, _ in ranges]), None if None in highs else sum(highs))


def _is_inside(total, candidate):
    low, high = candidate
    return low <= total and (high is None or total <= high)


def _ranges_below(tree, known):
    """Return a dict with the ranges from below, and the node of the conflict or None."""
    below = {}
    for node in range(len(tree), -1, -1):
        candidate = (0, None)
        if node in tree:
            candidate = _sum_ranges([below[child] for child in children(tree, node)])
        total = known[node]
        if total is not None and not _is_inside(total, candidate):
            return below, node
        below[node] = candidate if total is None else (total, total)
    return below, None


def _narrowed(own, parent, beside):
    """Return the range of a node, from its range from below, its parent's range and the sum of those beside it."""
    low, high = own
    if beside[1] is not None:
        low = max(low, parent[0] - beside[1])
    if parent[1] is not None:
        rest = parent[1] - beside[0]
        high = rest if high is None else min(high, rest)
    return (low, high)


def _ranges(tree, below):
    ranges = [below[0]]
    for index, parent in enumerate(tree):
        node = index + 1
        beside = [below[other] for other in children(tree, parent) if other != node]
        ranges.append(_narrowed(below[node], ranges[parent], _sum_ranges(beside)))
    return tuple(ranges)


def _first_completion(tree, below):
    """Return the own amounts of the first completion, whose totals are the least ones, node by node."""
    totals = [below[0][0]]
    for index, parent in enumerate(tree):
        node = index + 1
        siblings = children(tree, parent)
        left = totals[parent] - sum([totals[other] for other in siblings if other < node])
        later = [below[other] for other in siblings if other > node]
        totals.append(_narrowed(below[node], (left, left), _sum_ranges(later))[0])
    return tuple([0 if node in tree else total for node, total in enumerate(totals)])


def _seen_from(tree, known, node):
    """Return a node and its descendants such that no total between them is known, ascending."""
    seen = [node]
    for other in descendants(tree, node)[1:]:
        parent = tree[other - 1]
        if parent == node or (parent in seen and known[parent] is None):
            seen.append(other)
    return seen
