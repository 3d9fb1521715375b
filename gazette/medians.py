"""The median of three tuples of edits."""


def median(first, second, third):
    """Return the edits that occur in at least two of three tuples."""
    of_first = [edit for edit in first if edit in second or edit in third]
    of_second = [edit for edit in second if edit in third and edit not in first]
    return tuple(of_first + of_second)
