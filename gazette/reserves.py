"""Claims and payments that are paid from the funds of a node and of those above it."""

from gazette.trees import path


def settle(tree, funds, claims):
    """Return the shortfalls, the remaining funds or None, and the nodes of the deficit subtree."""
    due = list(claims)
    shortfalls = [0] * len(due)
    for node in range(len(tree), -1, -1):
        shortfalls[node] = max(due[node] - funds[node], 0)
        if node > 0:
            due[tree[node - 1]] += shortfalls[node]
    deficit = [node for node in range(len(due)) if all([shortfalls[above] > 0 for above in path(tree, node)])]
    remaining = None
    if shortfalls[0] == 0:
        remaining = tuple([max(fund - claim, 0) for fund, claim in zip(funds, due)])
    return tuple(shortfalls), remaining, tuple(deficit)


def pay(tree, funds, payments):
    """Return the funds after payments, or None if they are impossible."""
    made = _make_payments(tree, funds, payments)
    return None if made is None else made[0]


def divide(tree, funds, payments):
    """Return from which nodes each payment is taken, or None if they are impossible."""
    made = _make_payments(tree, funds, payments)
    return None if made is None else made[1]


def _make_payments(tree, funds, payments):
    """Return the funds after payments and their division, or None if they are impossible."""
    left = list(funds)
    division = []
    for node, amount in payments:
        if node > len(tree):
            return None
        parts = _parts_of(path(tree, node), left, amount)
        if parts is None:
            return None
        for source, part in parts:
            left[source] -= part
        division.append(tuple(parts))
    return tuple(left), tuple(division)


def _parts_of(sources, left, amount):
    """Return how much of an amount is taken from which of the sources, or None if they do not suffice."""
    parts = []
    missing = amount
    for source in sources:
        part = min(missing, left[source])
        if part > 0:
            parts.append((source, part))
            missing -= part
    return parts if missing == 0 else None
