"""Transfers between the nodes of a budget tree, and what they cost at least."""

from gazette.errors import TotalsDiffer
from gazette.trees import children, common_ancestor, distance, node_totals, path


def net_flows(tree, before, after):
    """Return by how much the total of each node changes."""
    _check_sums(before, after)
    old_totals, new_totals = node_totals(tree, before), node_totals(tree, after)
    return tuple([new - old for old, new in zip(old_totals, new_totals)])


def plan_transfers(tree, before, after):
    """Return the least cost, the plan, and the amounts that the nodes approve."""
    flows = net_flows(tree, before, after)
    cost = sum([abs(flow) for flow in flows[1:]])
    transfers = _plan(tree, before, after)
    return cost, transfers, _approvals(tree, transfers)


def crossings(tree, transfers):
    """Return the cost of transfers, the amounts that cross edges upwards and downwards, and the approvals."""
    cost = sum([amount * distance(tree, source, target) for source, target, amount in transfers])
    backwards = [(target, source, amount) for source, target, amount in transfers]
    return cost, _upwards(tree, transfers), _upwards(tree, backwards), _approvals(tree, transfers)


def node_prices(tree, before, after):
    """Return the prices of a change."""
    flows = net_flows(tree, before, after)
    prices = [0]
    for index, parent in enumerate(tree):
        prices.append(prices[parent] + _sign(flows[index + 1]))
    return tuple(prices)


def lower_bound(tree, before, after, prices):
    """Return the bound of prices, or None if they are not admissible."""
    _check_sums(before, after)
    if any([abs(prices[index + 1] - prices[parent]) > 1 for index, parent in enumerate(tree)]):
        return None
    return sum([price * (new - old) for price, old, new in zip(prices, before, after)])


def _check_sums(before, after):
    if sum(before) != sum(after):
        raise TotalsDiffer("the amounts before and after have different sums")


def _sign(flow):
    if flow == 0:
        return 0
    return 1 if flow > 0 else -1


def _plan(tree, before, after):
    transfers = []
    left_over = {}
    for node in range(len(tree), -1, -1):
        rise = after[node] - before[node]
        surpluses = [(node, -rise)] if rise < 0 else []
        demands = [(node, rise)] if rise > 0 else []
        for child in children(tree, node):
            surpluses.extend(left_over[child][0])
            demands.extend(left_over[child][1])
        transfers.extend(_match(surpluses, demands))
        left_over[node] = (surpluses, demands)
    return tuple(transfers)


def _match(surpluses, demands):
    """Return the transfers of two queues, in which only what is left over remains."""
    made = []
    while surpluses and demands:
        source, surplus = surpluses.pop(0)
        target, demand = demands.pop(0)
        amount = min(surplus, demand)
        made.append((source, target, amount))
        if surplus > amount:
            surpluses.insert(0, (source, surplus - amount))
        if demand > amount:
            demands.insert(0, (target, demand - amount))
    return made


def _upwards(tree, transfers):
    """Return the amounts that cross the edges of the nodes upwards."""
    amounts = [0] * (len(tree) + 1)
    for source, target, amount in transfers:
        above_target = path(tree, target)
        for node in path(tree, source):
            if node not in above_target:
                amounts[node] += amount
    return tuple(amounts)


def _approvals(tree, transfers):
    amounts = [0] * (len(tree) + 1)
    for source, target, amount in transfers:
        amounts[common_ancestor(tree, source, target)] += amount
    return tuple(amounts)
