"""Points 20 and 21: voting rules."""

import unittest

from gazette.rules import named, passes
from gazette.tallies import tally
from support import SIMPLE_RULES, Case, all_counts, in_chamber, roll_call_of

SEATS = ((0, 1, 2, 3),)


def nested(form, parts):
    """A rule of all parts, as deep as possible."""
    rule = parts[0]
    for part in parts[1:]:
        rule = (form, part, rule)
    return rule


class SimpleRulesTest(Case):
    def test_yeas(self):
        self.same(passes(("yeas", 0, 2), SEATS, "YYNN"), True)
        self.same(passes(("yeas", 0, 2), SEATS, "YPNN"), False)
        self.same(passes(("yeas", 0, 0), SEATS, "----"), True)
        self.same(passes(("yeas", 0, 1000), SEATS, "YYYY"), False)

    def test_quorum_counts_the_attending(self):
        self.same(passes(("quorum", 0, 3), SEATS, "YNP-"), True)
        self.same(passes(("quorum", 0, 3), SEATS, "YP--"), False)
        self.same(passes(("quorum", 0, 4), SEATS, "NNNN"), True)
        self.same(passes(("quorum", 0, 0), SEATS, ""), True)

    def test_majority_of_each_denominator(self):
        self.same(passes(("majority", 0, "seats"), SEATS, "YYY-"), True)
        self.same(passes(("majority", 0, "seats"), SEATS, "YY--"), False)
        self.same(passes(("majority", 0, "attending"), SEATS, "YYP-"), True)
        self.same(passes(("majority", 0, "attending"), SEATS, "YYPP"), False)
        self.same(passes(("majority", 0, "voting"), SEATS, "YYNP"), True)
        self.same(passes(("majority", 0, "voting"), SEATS, "YNPP"), False)
        self.same(passes(("majority", 0, "voting"), SEATS, "YPPP"), True)

    def test_fraction_of_each_denominator(self):
        self.same(passes(("fraction", 0, 3, 4, "seats"), SEATS, "YYY-"), True)
        self.same(passes(("fraction", 0, 3, 4, "seats"), SEATS, "YY--"), False)
        self.same(passes(("fraction", 0, 2, 3, "attending"), SEATS, "YYP-"), True)
        self.same(passes(("fraction", 0, 2, 3, "attending"), SEATS, "YYPN"), False)
        self.same(passes(("fraction", 0, 1, 2, "voting"), SEATS, "YNPP"), True)
        self.same(passes(("fraction", 0, 1, 2, "voting"), SEATS, "YNNP"), False)
        self.same(passes(("fraction", 0, 12, 12, "voting"), SEATS, "YYY-"), True)
        self.same(passes(("fraction", 0, 11, 12, "voting"), SEATS, "YYYN"), False)

    def test_nobody_votes(self):
        self.same(passes(("fraction", 0, 2, 3, "voting"), SEATS, "PPPP"), True)
        self.same(passes(("majority", 0, "voting"), SEATS, "PPPP"), False)
        self.same(passes(("fraction", 0, 2, 3, "attending"), SEATS, "----"), True)
        self.same(passes(("fraction", 0, 2, 3, "attending"), SEATS, "PPPP"), False)
        self.same(passes(("majority", 0, "attending"), SEATS, ""), False)

    def test_a_chamber_that_does_not_exist(self):
        self.same(passes(("yeas", 1, 0), SEATS, "YYYY"), True)
        self.same(passes(("yeas", 1, 1), SEATS, "YYYY"), False)
        self.same(passes(("quorum", 3, 0), SEATS, "YYYY"), True)
        self.same(passes(("majority", 2, "seats"), SEATS, "YYYY"), False)
        self.same(passes(("fraction", 2, 1, 1, "seats"), SEATS, "YYYY"), True)

    def test_vacant_seats_count_among_the_seats_alone(self):
        seats = ((0, None, 1, None),)
        self.same(passes(("majority", 0, "seats"), seats, "YY"), False)
        self.same(passes(("fraction", 0, 1, 2, "seats"), seats, "YY"), True)
        self.same(passes(("majority", 0, "attending"), seats, "YY"), True)
        self.same(passes(("fraction", 0, 1, 1, "voting"), seats, "YY"), True)
        self.same(passes(("quorum", 0, 3), seats, "YY"), False)

    def test_several_seats_and_absent_members(self):
        self.same(passes(("majority", 0, "seats"), ((0, 0, 1),), "YN"), True)
        self.same(passes(("majority", 0, "seats"), ((0, 1, 2),), "Y"), False)
        self.same(passes(("majority", 0, "attending"), ((0, 1, 2),), "Y"), True)

    def test_the_chamber_that_is_named_counts(self):
        seats = ((0, 1), (2, 3))
        self.same(passes(("yeas", 0, 2), seats, "YYNN"), True)
        self.same(passes(("yeas", 1, 1), seats, "YYNN"), False)

    def test_all_counts_of_four_members(self):
        for counts in all_counts(4):
            yeas, nays, present = counts
            roll_call = roll_call_of(counts, 4)
            self.same(tally(SEATS, roll_call, 0), (4, *counts))
            values = {"seats": 4, "attending": sum(counts), "voting": yeas + nays}
            for name, value in values.items():
                self.same(passes(("majority", 0, name), SEATS, roll_call), yeas > value - yeas)
                for p, q in ((1, 1), (1, 2), (2, 3), (3, 5), (5, 12)):
                    expected = not yeas * q < p * value
                    self.same(passes(("fraction", 0, p, q, name), SEATS, roll_call), expected)
            for threshold in range(6):
                self.same(passes(("yeas", 0, threshold), SEATS, roll_call), not yeas < threshold)
                self.same(passes(("quorum", 0, threshold), SEATS, roll_call), not sum(counts) < threshold)


class ParametersTest(Case):
    def test_threshold_by_parameter(self):
        rule = ("yeas", 0, ("parameter", 1))
        self.same(passes(rule, SEATS, "YY--", parameters=(9, 2)), True)
        self.same(passes(rule, SEATS, "YY--", parameters=(0, 3)), False)
        rule = ("quorum", 0, ("parameter", 0))
        self.same(passes(rule, SEATS, "NP--", parameters=(2, 9)), True)
        self.same(passes(rule, SEATS, "NP--", parameters=(3, 0)), False)

    def test_a_parameter_that_does_not_exist_is_zero(self):
        self.same(passes(("yeas", 0, ("parameter", 0)), SEATS, "----"), True)
        self.same(passes(("quorum", 0, ("parameter", 2)), SEATS, "----", parameters=(5, 5)), True)
        self.same(passes(("yeas", 0, ("parameter", 7)), SEATS, "NNNN", parameters=(9,) * 7), True)
        self.same(passes(("yeas", 0, ("parameter", 7)), SEATS, "NNNN", parameters=(9,) * 8), False)

    def test_a_number_is_no_parameter(self):
        self.same(passes(("yeas", 0, 1), SEATS, "YY--", parameters=(5, 5)), True)


class PremierTest(Case):
    def test_the_vote_of_the_premier(self):
        self.same(passes(("premier",), SEATS, "NYNN", premier=1), True)
        self.same(passes(("premier",), SEATS, "YNYY", premier=1), False)
        self.same(passes(("premier",), SEATS, "YPYY", premier=1), False)
        self.same(passes(("premier",), SEATS, "Y-YY", premier=1), False)
        self.same(passes(("premier",), SEATS, "YNNN", premier=0), True)

    def test_no_premier(self):
        self.same(passes(("premier",), SEATS, "YYYY"), False)
        self.same(passes(("premier",), SEATS, "YYYY", premier=None), False)

    def test_a_premier_without_a_seat(self):
        self.same(passes(("premier",), ((0, None),), "NNNNNY", premier=5), True)
        self.same(passes(("premier",), ((0, None),), "YYYYYN", premier=5), False)

    def test_a_premier_beyond_the_end_is_absent(self):
        self.same(passes(("premier",), SEATS, "YYYY", premier=4), False)
        self.same(passes(("premier",), SEATS, "", premier=0), False)


class CombinedRulesTest(Case):
    def test_all_and_any(self):
        yes, no = ("yeas", 0, 0), ("yeas", 0, 5)
        for x, first in ((yes, True), (no, False)):
            for y, second in ((yes, True), (no, False)):
                self.same(passes(("all", x, y), SEATS, "YYYY"), first and second)
                self.same(passes(("any", x, y), SEATS, "YYYY"), first or second)

    def test_premier_and_parameters_reach_every_depth(self):
        rule = ("all", ("any", ("yeas", 0, 5), ("all", ("premier",), ("quorum", 0, 1))), ("yeas", 0, ("parameter", 1)))
        self.same(passes(rule, SEATS, "YN--", parameters=(0, 1), premier=0), True)
        self.same(passes(rule, SEATS, "YN--", parameters=(0, 2), premier=0), False)
        self.same(passes(rule, SEATS, "YN--", parameters=(0, 1), premier=1), False)
        self.same(passes(rule, SEATS, "YN--", parameters=(0, 1)), False)

    def test_depth_four_on_each_side(self):
        yes, no = ("quorum", 0, 1), ("quorum", 0, 4)
        for place in range(4):
            parts = [yes] * 4
            parts[place] = no
            self.same(passes(nested("all", parts), SEATS, "YNP-"), False)
            parts = [no] * 4
            parts[place] = yes
            self.same(passes(nested("any", parts), SEATS, "YNP-"), True)
        self.same(passes(nested("all", [yes] * 4), SEATS, "YNP-"), True)
        self.same(passes(nested("any", [no] * 4), SEATS, "YNP-"), False)

    def test_full_tree_of_depth_four(self):
        seats = ((0,), (1,), (2,), (3,))
        pairs = [("any", ("yeas", 0, 1), ("yeas", 1, 1)), ("all", ("yeas", 2, 1), ("yeas", 3, 1))]
        rule = ("any", ("all", pairs[0], pairs[1]), ("all", ("any", *pairs), ("premier",)))
        for number in range(16):
            votes = [number >> place & 1 == 1 for place in range(4)]
            roll_call = "".join("Y" if vote else "N" for vote in votes)
            either, both = votes[0] or votes[1], votes[2] and votes[3]
            expected = (either and both) or ((either or both) and votes[3])
            self.same(passes(rule, seats, roll_call, premier=3), expected)


class NamedTest(Case):
    def test_simple_rules(self):
        self.same(named(("yeas", 1, 3)), ((1,), ()))
        self.same(named(("yeas", 2, ("parameter", 5))), ((2,), (5,)))
        self.same(named(("quorum", 3, 0)), ((3,), ()))
        self.same(named(("quorum", 0, ("parameter", 0))), ((0,), (0,)))
        self.same(named(("majority", 1, "voting")), ((1,), ()))
        self.same(named(("fraction", 2, 1, 7, "attending")), ((2,), ()))

    def test_the_premier_names_nothing(self):
        self.same(named(("premier",)), ((), ()))
        self.same(named(("all", ("premier",), ("majority", 1, "seats"))), ((1,), ()))

    def test_ascending_without_duplicates(self):
        parts = [("yeas", 3, ("parameter", 7)), ("quorum", 1, ("parameter", 2)), ("majority", 3, "seats")]
        parts += [("fraction", 0, 1, 2, "voting"), ("quorum", 1, ("parameter", 7)), ("yeas", 1, ("parameter", 0))]
        rule = ("all", ("any", parts[0], parts[1]), ("any", ("all", parts[2], parts[3]), ("all", parts[4], parts[5])))
        self.same(named(rule), ((0, 1, 3), (0, 2, 7)))

    def test_same_thresholds_are_told_once(self):
        self.same(named(("any", ("yeas", 2, ("parameter", 4)), ("quorum", 2, ("parameter", 4)))), ((2,), (4,)))

    def test_every_simple_rule_in_each_chamber(self):
        for rule in SIMPLE_RULES:
            for chamber in range(4):
                self.same(named(in_chamber(rule, chamber))[0], (chamber,))


if __name__ == "__main__":
    unittest.main()
