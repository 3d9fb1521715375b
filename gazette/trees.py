"""Budget trees: paths, distances and totals."""


def path(tree, node):
    """Return the path of a node, from the node to the root."""
    nodes = [node]
    while nodes[-1] > 0:
        nodes.append(tree[nodes[-1] - 1])
    return tuple(nodes)


def children(tree, node):
    """Return the children of a node, ascending."""
    return tuple([index + 1 for index, parent in enumerate(tree) if parent == node])


def descendants(tree, node):
    """Return the descendants of a node, itself included, ascending."""
    return tuple([other for other in range(len(tree) + 1) if node in path(tree, other)])


def common_ancestor(tree, first, second):
    """Return the lowest common ancestor of two nodes."""
    above = path(tree, second)
    return [node for node in path(tree, first) if node in above][0]


def distance(tree, first, second):
    """Return the number of edges between two nodes."""
    ancestor = common_ancestor(tree, first, second)
    return path(tree, first).index(ancestor) + path(tree, second).index(ancestor)


def node_totals(tree, own):
    """Return the total of each node."""
    totals = list(own)
    # A parent has a lower number than its children.
    for node in range(len(tree), 0, -1):
        parent = tree[node - 1]
        totals[parent] = totals[parent] + totals[node]
    return tuple(totals)


def own_amounts(tree, totals):
    """Return the own amounts with these totals, or None if one would be negative."""
    own = list(totals)
    for index, parent in enumerate(tree):
        own[parent] -= totals[index + 1]
    return None if min(own) < 0 else tuple(own)


def is_consistent_table(tree, rows):
    """Return whether a table has one row for each node, with the right totals."""
    if len(rows) != len(tree) + 1:
        return False
    totals = tuple([row[1] for row in rows])
    return totals == node_totals(tree, [row[0] for row in rows])
