"""Compromises between the edits that two chambers have adopted."""

from gazette.edits import conflict, end_of
from gazette.errors import Conflicting


def is_compatible(edits):
    """Return whether no two of the edits are equal or conflict."""
    for index, edit in enumerate(edits):
        if any([edit == other or conflict(edit, other) for other in edits[index + 1:]]):
            return False
    return True


def check_compatible(first, second):
    """Refuse edits of one chamber that are not compatible."""
    if not is_compatible(first) or not is_compatible(second):
        raise Conflicting("the edits of one chamber are equal or conflict")


def is_compromise(first, second, edits):
    """Return whether edits are a compromise between those of two chambers."""
    has_all_shared = all([edit in edits for edit in first if edit in second])
    has_nothing_else = all([edit in first or edit in second for edit in edits])
    return has_all_shared and has_nothing_else and is_compatible(edits)


def scheduling_order(first, second):
    """Return the different edits of two chambers in scheduling order."""
    # The keys of a dict stand in the order of their first occurrences.
    different = {edit: True for edit in first + second}
    return tuple(sorted(different, key=_place_of))


def largest(first, second):
    """Return the largest compromise and the cliques that certify its size."""
    check_compatible(first, second)
    kept, cliques = [], []
    for edit in scheduling_order(first, second):
        met = [index for index, other in enumerate(kept) if conflict(edit, other)]
        if met:
            cliques[met[0]].append(edit)
        else:
            kept.append(edit)
            cliques.append([edit])
    return tuple(kept), tuple([tuple(clique) for clique in cliques])


def is_clique_cover(first, second, groups):
    """Return whether groups of conflicting edits have all edits of two chambers."""
    if not all([_is_clique(group) for group in groups]):
        return False
    return all([any([edit in group for group in groups]) for edit in first + second])


def _place_of(edit):
    return (end_of(edit), edit[0])


def _is_clique(group):
    for index, edit in enumerate(group):
        if not all([conflict(edit, other) for other in group[index + 1:]]):
            return False
    return True
