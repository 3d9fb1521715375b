"""Yearly amounts that are released in twelfths."""


def released(amounts):
    """Return the released amount by each month."""
    totals = []
    highest = 0
    for month, amount in enumerate(amounts):
        highest = max(highest, (month + 1) * amount // 12)
        totals.append(highest)
    return tuple(totals)


def monthly_releases(amounts):
    """Return the amount that each month releases."""
    totals = released(amounts)
    return tuple([total - earlier for earlier, total in zip((0, *totals), totals)])
