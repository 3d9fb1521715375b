"""The heaviest compromise, and line prices that certify its weight."""

from gazette.compromises import check_compatible, scheduling_order
from gazette.edits import end_of


def heaviest(first, second, first_weights, second_weights):
    """Return the heaviest compromise, its weight and its line prices."""
    check_compatible(first, second)
    weights = _weights_of(first, second, first_weights, second_weights)
    order = scheduling_order(first, second)
    best = _best_weights(order, weights)
    return _chosen(order, weights, best), best[-1], _line_prices(order, weights, best)


def is_price_cover(first, second, first_weights, second_weights, prices):
    """Return whether prices of lines cover the edits of two chambers."""
    check_compatible(first, second)
    weights = _weights_of(first, second, first_weights, second_weights)
    removing = [edit for edit in weights if edit[1]]
    return all([weights[edit] <= _price_of(edit, weights, prices) for edit in removing])


def price_bound(first, second, first_weights, second_weights, prices):
    """Return the weight that no compromise exceeds if the prices cover."""
    check_compatible(first, second)
    weights = _weights_of(first, second, first_weights, second_weights)
    return sum(prices) + sum([weights[edit] for edit in weights if not edit[1]])


def _weights_of(first, second, first_weights, second_weights):
    """Return a dict with the weight of each edit; one that occurs in both has the sum."""
    weights = {edit: 0 for edit in first + second}
    for edit, weight in zip(first + second, first_weights + second_weights):
        weights[edit] += weight
    return weights


def _many_until(order, position):
    """Return how many edits have ends up to a position; in scheduling order they are the first ones."""
    return len([edit for edit in order if end_of(edit) <= position])


def _many_beside(order, index):
    """Return how many of the edits before one in scheduling order do not conflict with it."""
    return _many_until(order[:index], order[index][0])


def _best_weights(order, weights):
    """Return for each number k the greatest weight of compatible edits among the first k."""
    best = [0]
    for index, edit in enumerate(order):
        with_edit = weights[edit] + best[_many_beside(order, index)]
        best.append(max(best[index], with_edit))
    return best


def _chosen(order, weights, best):
    """Return the heaviest compromise, found from the last edit on."""
    chosen = []
    many = len(order)
    while many > 0:
        edit = order[many - 1]
        beside = _many_beside(order, many - 1)
        # Of equal weights the one with the later edit wins, so an edit that costs nothing is taken.
        if weights[edit] + best[beside] == best[many]:
            chosen.append(edit)
            many = beside
        else:
            many -= 1
    return tuple(chosen[::-1])


def _line_prices(order, weights, best):
    length = end_of(order[-1]) if order else 0
    prefix = [best[_many_until(order, position)] for position in range(length + 1)]
    rises = [prefix[line + 1] - prefix[line] for line in range(length)]
    return tuple([rise - _inserted(weights, line + 1, line + 2) for line, rise in enumerate(rises)])


def _inserted(weights, low, high):
    """Return the weight of all insertions at positions from low to high - 1."""
    inserting = [edit for edit in weights if not edit[1] and low <= edit[0] < high]
    return sum([weights[edit] for edit in inserting])


def _price_of(edit, weights, prices):
    """Return what the lines that an edit removes and the insertions strictly inside are worth."""
    position, end = edit[0], end_of(edit)
    return sum(prices[position:end]) + _inserted(weights, position + 1, end)
