"""Changes of seats."""


def is_seating(members, seats):
    """Return whether the seats are a valid seating for a number of members."""
    for chamber in seats:
        holders = [holder for holder in chamber if holder is not None]
        if len(set(holders)) < len(holders) or any([holder >= members for holder in holders]):
            return False
    return True


def apply_changes(members, seats, changes):
    """Return the seats after the changes before the first one that is not valid, and its index or None."""
    for index, change in enumerate(changes):
        if not _is_valid(members, seats, change):
            return seats, index
        seats = _with_change(seats, change)
    return seats, None


def inverse_changes(members, seats, changes):
    """Return the changes that take valid changes back, or None if they are not valid."""
    inverse = []
    for change in changes:
        if not _is_valid(members, seats, change):
            return None
        chamber, seat, _ = change
        inverse.append((chamber, seat, seats[chamber][seat]))
        seats = _with_change(seats, change)
    return tuple(inverse[::-1])


def set_holders(seats, changes):
    """Return the seats after all changes, valid or not, of seats that exist."""
    for change in changes:
        if _exists(seats, change):
            seats = _with_change(seats, change)
    return seats


def changes_between(before, after):
    """Return the fewest changes that lead from one valid seating to another one."""
    vacated, filled = [], []
    for chamber, holders in enumerate(before):
        for seat, (old, new) in enumerate(zip(holders, after[chamber])):
            if old != new and old is not None:
                vacated.append((chamber, seat, None))
            if old != new and new is not None:
                filled.append((chamber, seat, new))
    return tuple(vacated + filled)


def _exists(seats, change):
    chamber, seat, _ = change
    return chamber < len(seats) and seat < len(seats[chamber])


def _is_valid(members, seats, change):
    if not _exists(seats, change):
        return False
    chamber, seat, member = change
    holders = seats[chamber]
    if member is None:
        return holders[seat] is not None
    return holders[seat] is None and member < members and member not in holders


def _with_change(seats, change):
    chamber, seat, member = change
    holders = seats[chamber]
    changed = (*holders[:seat], member, *holders[seat + 1:])
    return (*seats[:chamber], changed, *seats[chamber + 1:])
