"""Petitions: signatures from districts, and how many are missing."""


def qualifies(threshold, signatures):
    """Return whether a petition qualifies."""
    districts, total, per_district, required = threshold
    if len(set(signatures)) < len(signatures) or len(signatures) < total:
        return False
    of_signatures = [district for district, _ in signatures]
    if any([district >= districts for district in of_signatures]):
        return False
    reached = [district for district in range(districts) if of_signatures.count(district) >= per_district]
    return len(reached) >= required


def signatures_needed(threshold, counts):
    """Return how many signatures are missing at least, or None if no signatures suffice."""
    further = further_signatures(threshold, counts)
    return None if further is None else sum(further)


def further_signatures(threshold, counts):
    """Return how many signatures are missing from each existing district, or None."""
    districts, total, per_district, required = threshold
    if required > districts or (districts == 0 and total != 0):
        return None
    so_far = [counts[district] if district < len(counts) else 0 for district in range(districts)]
    shortfalls = [max(0, per_district - count) for count in so_far]
    cheapest = sorted([(shortfall, district) for district, shortfall in enumerate(shortfalls)])[:required]
    further = [0] * districts
    for shortfall, district in cheapest:
        further[district] = shortfall
    excess = total - sum(so_far) - sum(further)
    if excess > 0:
        further[0] += excess
    return tuple(further)
