"""Roll calls and the tallies of chambers."""


def holders_of(seats, chamber):
    """Return the holders of a chamber; a chamber that does not exist has none."""
    return seats[chamber] if chamber < len(seats) else ()


def vote_of(roll_call, member):
    """Return the vote of a member; beyond the end of the roll call everybody is absent."""
    return roll_call[member] if member < len(roll_call) else "-"


def tally(seats, roll_call, chamber):
    """Return the tally `(seats, yeas, nays, present)` of a chamber."""
    holders = holders_of(seats, chamber)
    votes = [vote_of(roll_call, holder) for holder in holders if holder is not None]
    return (len(holders), votes.count("Y"), votes.count("N"), votes.count("P"))
