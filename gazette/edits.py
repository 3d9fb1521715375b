"""Edits of a text."""

from gazette.errors import NotInOrder


def applies(lines, edit):
    """Return whether a single edit applies to a text."""
    position, remove, _ = edit
    end = end_of(edit)
    # A negative position would count from the end of the text.
    return position >= 0 and end <= len(lines) and lines[position:end] == remove


def end_of(edit):
    """Return the end of an edit: the index behind the last line that it removes."""
    position, remove, _ = edit
    return position + len(remove)


def in_order(edits):
    """Return whether edits are in order."""
    return all([end_of(edit) <= later[0] for edit, later in zip(edits, edits[1:])])


def apply_edits(lines, edits):
    """Return the text after edits have been applied simultaneously, or None if they do not apply."""
    origins = line_origins(lines, edits)
    if origins is None:
        return None
    return tuple([_line_from(lines, edits, origin) for origin in origins])


def line_origins(lines, edits):
    """Return the origin of each line of the result, or None if the edits do not apply."""
    if not in_order(edits) or not all([applies(lines, edit) for edit in edits]):
        return None
    origins = []
    kept_from = 0
    for number, edit in enumerate(edits):
        origins.extend([("kept", index) for index in range(kept_from, edit[0])])
        origins.extend([("inserted", number, index) for index in range(len(edit[2]))])
        kept_from = end_of(edit)
    origins.extend([("kept", index) for index in range(kept_from, len(lines))])
    return tuple(origins)


def conflict(first, second):
    """Return whether two edits conflict."""
    return first[0] < end_of(second) and second[0] < end_of(first)


def first_conflict(edits):
    """Return the first pair of indices of conflicting edits, or None."""
    for i, edit in enumerate(edits):
        for j in range(i + 1, len(edits)):
            if conflict(edit, edits[j]):
                return (i, j)
    return None


def sorted_edits(edits):
    """Return the edits by position, then by end; equal ones keep their order."""
    return tuple(sorted(edits, key=_place_of))


def inverse_edits(edits):
    """Return the edits that take edits back which are in order."""
    if not in_order(edits):
        raise NotInOrder("only edits that are in order have an inverse")
    inverse = []
    shift = 0
    for position, remove, insert in edits:
        inverse.append((position + shift, insert, remove))
        shift += len(insert) - len(remove)
    return tuple(inverse)


def perform(lines, edits, order):
    """Return the text after edits have been performed one by one, or None if one does not apply."""
    performed = []
    for index in order:
        position, remove, insert = edits[index]
        shifts = [len(edits[done][2]) - len(edits[done][1]) for done in performed if done < index]
        shifted = (position + sum(shifts), remove, insert)
        if not applies(lines, shifted):
            return None
        lines = (*lines[:shifted[0]], *insert, *lines[end_of(shifted):])
        performed.append(index)
    return lines


def _line_from(lines, edits, origin):
    if origin[0] == "kept":
        return lines[origin[1]]
    return edits[origin[1]][2][origin[2]]


def _place_of(edit):
    return (edit[0], end_of(edit))
