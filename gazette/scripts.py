"""Scripts: edits step by step."""

from gazette.edits import end_of, in_order
from gazette.errors import NotInOrder


def script_of(edits):
    """Return the script of edits that are in order."""
    if not in_order(edits):
        raise NotInOrder("only edits that are in order have a script")
    steps = []
    kept_from = 0
    for edit in edits:
        position, remove, insert = edit
        steps.extend([("keep",)] * (position - kept_from))
        steps.extend([("remove", line) for line in remove])
        steps.extend([("insert", line) for line in insert])
        kept_from = end_of(edit)
    return tuple(steps)


def run_script(script, lines):
    """Return the text after a script, or None if the script does not apply."""
    result = []
    at = 0
    for step in script:
        if step[0] == "insert":
            result.append(step[1])
            continue
        if at == len(lines) or (step[0] == "remove" and step[1] != lines[at]):
            return None
        if step[0] == "keep":
            result.append(lines[at])
        at += 1
    return (*result, *lines[at:])


def normal_form(script):
    """Return the script with the removals of each gap before its insertions."""
    steps = []
    for number, (removed, inserted) in enumerate(_gaps(script)):
        if number > 0:
            steps.append(("keep",))
        steps.extend([("remove", line) for line in removed])
        steps.extend([("insert", line) for line in inserted])
    return tuple(steps)


def edits_of(script):
    """Return the edits of a script, whose script is its normal form."""
    edits = []
    position = 0
    for number, (removed, inserted) in enumerate(_gaps(script)):
        if number > 0:
            position += 1
        if removed or inserted:
            edits.append((position, removed, inserted))
        position += len(removed)
    # Without an edit at the end, its last keeps would be lost.
    if script and script[-1] == ("keep",):
        edits.append((position, (), ()))
    return tuple(edits)


def inverse_script(script):
    """Return the script that takes a script back."""
    return tuple([_inverse_step(step) for step in script])


def _gaps(script):
    """Return the lines removed and inserted in each gap, one gap more than there are keeps."""
    keeps = [index for index, step in enumerate(script) if step[0] == "keep"]
    bounds = [-1, *keeps, len(script)]
    gaps = [script[start + 1:end] for start, end in zip(bounds, bounds[1:])]
    return [(_lines_of("remove", gap), _lines_of("insert", gap)) for gap in gaps]


def _lines_of(kind, steps):
    return tuple([step[1] for step in steps if step[0] == kind])


def _inverse_step(step):
    if step[0] == "keep":
        return step
    return ("insert", step[1]) if step[0] == "remove" else ("remove", step[1])
