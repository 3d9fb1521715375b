"""Amendments: the order of the votes on them, and what is adopted."""

from gazette.edits import apply_edits, conflict, sorted_edits


def voting_order(edits):
    """Return the numbers of all amendments in voting order."""
    places = [(position, -len(remove), number) for number, (position, remove, _) in enumerate(edits)]
    return tuple([place[2] for place in sorted(places)])


def resolve(edits, flags):
    """Return the voting order, the numbers of the adopted amendments, and the outcome of each amendment."""
    order = voting_order(edits)
    outcomes = _outcomes(edits, flags, order)
    adopted = [number for number in order if outcomes[number] == "adopted"]
    return order, tuple(adopted), outcomes


def adopted_in(edits, flags, order):
    """Return the numbers of the amendments that are adopted in a given order, in this order."""
    outcomes = _outcomes(edits, flags, order)
    return tuple([number for number in order if outcomes[number] == "adopted"])


def amended(lines, edits, flags):
    """Return the resulting text, or None if the adopted amendments do not apply simultaneously."""
    adopted = adopted_in(edits, flags, voting_order(edits))
    return apply_edits(lines, sorted_edits([edits[number] for number in adopted]))


def _outcomes(edits, flags, order):
    """Return the outcome of each amendment, by its number, if they are processed in the given order."""
    outcomes = [""] * len(edits)
    adopted = []
    for number in order:
        if any([conflict(edits[number], edits[other]) for other in adopted]):
            outcomes[number] = "superseded"
        elif flags[number]:
            outcomes[number] = "adopted"
            adopted.append(number)
        else:
            outcomes[number] = "rejected"
    return tuple(outcomes)
