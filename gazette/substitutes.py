"""Seats that are filled from a list whose members depart and return."""


def available(ranked, events):
    """Return the members of the list who are not absent after all events, in the order of the list."""
    last = {}
    for kind, member in events:
        last[member] = kind
    return tuple([member for member in ranked if last.get(member) != "departs"])


def seated_by_rank(ranked, many, events):
    """Return the members who are seated if rank alone decides, in the order of the list."""
    return available(ranked, events)[:many]


def seated_by_tenure(ranked, many, events):
    """Return the members who are seated if substitutes keep their seats, in the order of the list."""
    seated = list(ranked[:many])
    for index, (kind, member) in enumerate(events):
        if kind == "departs" and member in seated:
            seated.remove(member)
            present = available(ranked, events[:index + 1])
            seated.extend([other for other in present if other not in seated][:1])
        elif kind == "returns" and member in ranked and member not in seated and len(seated) < many:
            seated.append(member)
    return tuple([member for member in ranked if member in seated])
