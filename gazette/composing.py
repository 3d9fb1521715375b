"""Composing scripts, and texts that tell two scripts apart."""

from gazette.scripts import normal_form, run_script


def compose(scripts):
    """Return the normal form of the composition of scripts, or None if it does not exist."""
    composed = scripts[0]
    for script in scripts[1:]:
        composed = _composition(composed, script)
        if composed is None:
            return None
    return normal_form(composed)


def alike(first, second):
    """Return whether two scripts are alike."""
    return normal_form(first) == normal_form(second)


def least_text(script, filler):
    """Return the shortest text to which a script applies, with the filler for its keeps."""
    needed = [step for step in script if step[0] != "insert"]
    return tuple([filler if step[0] == "keep" else step[1] for step in needed])


def parting_text(first, second):
    """Return a text on which two scripts part, or None if they are alike."""
    if alike(first, second):
        return None
    filler = _unused_line((*first, *second))
    text = least_text(first, filler)
    if run_script(first, text) != run_script(second, text):
        return text
    return least_text(second, filler)


def _composition(first, second):
    """Return the steps of the composition of two scripts, or None if it does not exist."""
    steps = []
    i, j = 0, 0
    while i < len(first) and j < len(second):
        if first[i][0] == "remove":
            steps.append(first[i])
            i += 1
        elif second[j][0] == "insert":
            steps.append(second[j])
            j += 1
        else:
            if _contradict(first[i], second[j]):
                return None
            steps.extend(_joint_steps(first[i], second[j]))
            i += 1
            j += 1
    return (*steps, *first[i:], *second[j:])


def _contradict(before, after):
    """Return whether a line is inserted where another one is removed."""
    return before[0] == "insert" and after[0] == "remove" and before[1] != after[1]


def _joint_steps(before, after):
    """Return what a keep or an insertion and a keep or a removal of its line come to."""
    if before[0] == "insert" and after[0] == "remove":
        return []
    return [before] if after[0] == "keep" else [after]


def _unused_line(steps):
    used = [step[1] for step in steps if step[0] != "keep"]
    line = ""
    while line in used:
        line += "x"
    return line
