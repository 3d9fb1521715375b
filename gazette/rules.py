"""Voting rules: whether they pass, and what they name."""

from gazette.tallies import tally, vote_of


def leaves(rule):
    """Return the list of the simple rules and premier's votes in a rule, from left to right."""
    if rule[0] in ("all", "any"):
        return leaves(rule[1]) + leaves(rule[2])
    return [rule]


def simple_passes(rule, counted, parameters):
    """Return whether a simple rule passes if its chamber has the tally `counted`."""
    _, yeas, nays, present = counted
    kind = rule[0]
    if kind == "yeas":
        return yeas >= _threshold_value(rule[2], parameters)
    if kind == "quorum":
        return yeas + nays + present >= _threshold_value(rule[2], parameters)
    if kind == "majority":
        return 2 * yeas > _denominator_value(rule[2], counted)
    return rule[3] * yeas >= rule[2] * _denominator_value(rule[4], counted)


def evaluate(rule, tally_at, premier_agrees, parameters):
    """Return whether a rule passes.

    The function `tally_at` tells the tally of a chamber by its number; `premier_agrees`
    is True if there is a premier who votes yea.
    """
    kind = rule[0]
    if kind == "premier":
        return premier_agrees
    if kind not in ("all", "any"):
        return simple_passes(rule, tally_at(rule[1]), parameters)
    first = evaluate(rule[1], tally_at, premier_agrees, parameters)
    second = evaluate(rule[2], tally_at, premier_agrees, parameters)
    return (first and second) if kind == "all" else (first or second)


def passes(rule, seats, roll_call, *, parameters=(), premier=None):
    """Return whether a rule passes for seats, a roll call, parameters and a premier."""
    premier_agrees = premier is not None and vote_of(roll_call, premier) == "Y"
    return evaluate(rule, lambda chamber: tally(seats, roll_call, chamber), premier_agrees, parameters)


def named(rule):
    """Return the chambers and the procedural parameters that a rule names, each ascending."""
    simple = [leaf for leaf in leaves(rule) if leaf[0] != "premier"]
    chambers = [leaf[1] for leaf in simple]
    thresholds = [leaf[2] for leaf in simple if leaf[0] in ("yeas", "quorum")]
    numbers = [threshold[1] for threshold in thresholds if isinstance(threshold, tuple)]
    return tuple(sorted(set(chambers))), tuple(sorted(set(numbers)))


def _threshold_value(threshold, parameters):
    if not isinstance(threshold, tuple):
        return threshold
    number = threshold[1]
    return parameters[number] if number < len(parameters) else 0


def _denominator_value(denominator, counted):
    many, yeas, nays, present = counted
    if denominator == "seats":
        return many
    if denominator == "attending":
        return yeas + nays + present
    return yeas + nays
