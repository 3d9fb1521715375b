"""Points 21 and 22: rules in isolation."""

import unittest

from gazette.isolation import no_show, pairing, parting_counts, passes_at
from gazette.rules import passes
from support import SIMPLE_RULES, Case, all_counts, in_chamber, roll_call_of

PARAMETERS = (3, 2)
RULES = SIMPLE_RULES + tuple(
    (form, first, in_chamber(second, 1))
    for form in ("all", "any")
    for first in SIMPLE_RULES
    for second in SIMPLE_RULES
) + (("premier",), ("any", ("premier",), ("yeas", 3, 1)), ("all", ("yeas", 3, 1), ("premier",)))


def by_roll_call(rule, size, counts):
    """The result, by a vote of as many members in chambers that are all the same."""
    seats = (tuple(range(size)),) * 4
    return passes(rule, seats, roll_call_of(counts, size), parameters=PARAMETERS)


class PassesAtTest(Case):
    def test_as_a_vote_in_equal_chambers(self):
        for rule in RULES:
            for size in (1, 2, 4):
                for counts in all_counts(size):
                    expected = by_roll_call(rule, size, counts)
                    self.same(passes_at(rule, size, counts, parameters=PARAMETERS), expected)

    def test_members_beyond_the_counts_are_absent(self):
        self.same(passes_at(("majority", 0, "seats"), 5, (2, 0, 0)), False)
        self.same(passes_at(("majority", 0, "attending"), 5, (2, 0, 0)), True)
        self.same(passes_at(("quorum", 0, 4), 5, (1, 1, 1)), False)

    def test_all_chambers_are_the_same_one(self):
        rule = ("all", ("yeas", 3, 2), ("quorum", 1, 3))
        self.same(passes_at(rule, 4, (2, 1, 0)), True)
        self.same(passes_at(rule, 4, (2, 0, 0)), False)

    def test_there_is_no_premier(self):
        self.same(passes_at(("premier",), 3, (3, 0, 0)), False)
        self.same(passes_at(("any", ("premier",), ("yeas", 0, 3)), 3, (3, 0, 0)), True)

    def test_parameters(self):
        rule = ("yeas", 0, ("parameter", 1))
        self.same(passes_at(rule, 3, (1, 0, 0)), True)
        self.same(passes_at(rule, 3, (1, 0, 0), parameters=(0, 1)), True)
        self.same(passes_at(rule, 3, (1, 0, 0), parameters=(0, 2)), False)

    def test_size_zero(self):
        self.same(passes_at(("fraction", 0, 1, 1, "seats"), 0, (0, 0, 0)), True)
        self.same(passes_at(("majority", 0, "seats"), 0, (0, 0, 0)), False)


class ParadoxTest(Case):
    def test_no_show_of_every_rule(self):
        for rule in RULES:
            for size in (0, 1, 3, 4):
                found = [
                    (y, n, p) for y, n, p in all_counts(size)
                    if n and by_roll_call(rule, size, (y, n, p)) and not by_roll_call(rule, size, (y, n - 1, p))
                ]
                self.same(no_show(rule, size, parameters=PARAMETERS), found[0] if found else None)

    def test_pairing_of_every_rule(self):
        for rule in RULES:
            for size in (0, 1, 3, 4):
                found = [
                    (y, n, p) for y, n, p in all_counts(size)
                    if y and n and by_roll_call(rule, size, (y, n, p)) != by_roll_call(rule, size, (y - 1, n - 1, p))
                ]
                self.same(pairing(rule, size, parameters=PARAMETERS), found[0] if found else None)

    def test_no_show_by_a_quorum(self):
        self.same(no_show(("quorum", 0, 1), 3), (0, 1, 0))
        self.same(no_show(("quorum", 0, ("parameter", 0)), 3, parameters=(2,)), (0, 1, 1))
        rule = ("all", ("quorum", 2, 3), ("fraction", 1, 1, 2, "voting"))
        self.same(no_show(rule, 3), (1, 1, 1))

    def test_no_paradox(self):
        self.same(no_show(("majority", 0, "voting"), 12), None)
        self.same(no_show(("quorum", 0, 4), 3), None)
        self.same(no_show(("premier",), 4), None)
        self.same(pairing(("majority", 0, "voting"), 12), None)
        self.same(pairing(("premier",), 4), None)

    def test_no_show_needs_a_rule_that_fails_without_the_nay(self):
        self.same(no_show(("quorum", 0, 0), 5), None)

    def test_pairing_in_both_directions(self):
        self.same(pairing(("yeas", 0, 1), 3), (1, 1, 0))
        self.same(pairing(("majority", 0, "attending"), 12), None)
        self.same(pairing(("fraction", 0, 2, 3, "voting"), 12), (1, 1, 0))
        self.same(pairing(("fraction", 0, 3, 4, "voting"), 4, parameters=(1,)), (1, 1, 0))

    def test_size_zero(self):
        self.same(no_show(("quorum", 0, 1), 0), None)
        self.same(pairing(("yeas", 0, 1), 0), None)

    def test_largest_size(self):
        self.same(no_show(("quorum", 0, 12), 12), (0, 1, 11))
        self.same(pairing(("yeas", 0, 6), 12), (6, 1, 0))


class PartingCountsTest(Case):
    def test_every_pair_of_rules(self):
        for first in RULES[::7]:
            for second in RULES[::5]:
                for size in (0, 3):
                    found = [
                        counts for counts in all_counts(size)
                        if by_roll_call(first, size, counts) != by_roll_call(second, size, counts)
                    ]
                    actual = parting_counts(first, second, size, parameters=PARAMETERS)
                    self.same(actual, found[0] if found else None)

    def test_either_one_may_pass(self):
        self.same(parting_counts(("yeas", 0, 2), ("yeas", 1, 1), 3), (1, 0, 0))
        self.same(parting_counts(("yeas", 0, 1), ("yeas", 1, 2), 3), (1, 0, 0))

    def test_equal_rules_do_not_part(self):
        self.same(parting_counts(("yeas", 0, 2), ("yeas", 3, 2), 12), None)
        self.same(parting_counts(("yeas", 0, 2), ("yeas", 0, 3), 1), None)

    def test_size_zero(self):
        self.same(parting_counts(("yeas", 0, 0), ("yeas", 0, 1), 0), (0, 0, 0))
        self.same(parting_counts(("yeas", 0, 2), ("yeas", 0, 1), 0), None)

    def test_parameters(self):
        first, second = ("yeas", 0, ("parameter", 0)), ("yeas", 0, ("parameter", 1))
        self.same(parting_counts(first, second, 5), None)
        self.same(parting_counts(first, second, 5, parameters=(3, 4)), (3, 0, 0))


if __name__ == "__main__":
    unittest.main()
