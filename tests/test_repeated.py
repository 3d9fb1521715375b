"""Points 5 and 6: a call changes no argument, and a second question is answered as the first time."""

import copy
import unittest

from gazette.amendments import adopted_in, amended, resolve, voting_order
from gazette.bills import adopted_edits, is_valid_bill, is_valid_report, is_valid_statute, resulting_text
from gazette.blanks import highest_passing, passes_amount
from gazette.charters import check_charter, edges, pivotal_member, writers
from gazette.composing import alike, compose, least_text, parting_text
from gazette.compromises import is_clique_cover, is_compatible, is_compromise, largest, scheduling_order
from gazette.dates import add_months, date_of, day_of, is_leap, month_length, next_date, weekday
from gazette.edits import (
    applies, apply_edits, conflict, first_conflict, in_order, inverse_edits, line_origins, perform, sorted_edits,
)
from gazette.isolation import no_show, pairing, parting_counts, passes_at
from gazette.medians import median
from gazette.partial import complete, nearest_known, open_leaves
from gazette.petitions import further_signatures, qualifies, signatures_needed
from gazette.rankings import verify_ranking
from gazette.reserves import divide, pay, settle
from gazette.rules import named, passes
from gazette.scripts import edits_of, inverse_script, normal_form, run_script, script_of
from gazette.seats import apply_changes, changes_between, inverse_changes, is_seating, set_holders
from gazette.sittings import is_sitting, last_sitting, sitting_day, sittings_before
from gazette.substitutes import available, seated_by_rank, seated_by_tenure
from gazette.tallies import tally
from gazette.transfers import crossings, lower_bound, net_flows, node_prices, plan_transfers
from gazette.trees import (
    common_ancestor, descendants, distance, is_consistent_table, node_totals, own_amounts, path,
)
from gazette.twelfths import monthly_releases, released
from gazette.walks import is_walk, reached, slack
from gazette.weights import heaviest, is_price_cover, price_bound
from gazette.whips import decisive_absences, decisive_yeas, is_read_once, least_absences, least_yeas
from record_calls import CALLS_ON_RECORDS, REFUSED_ON_RECORDS, answer
from support import charter_of, entry_type
from test_interface import SIGNATURES

SEATS = ((0, 1, None, 1), (2, None, 3))
RULE = ("all", ("any", ("premier",), ("yeas", 0, ("parameter", 0))), ("fraction", 1, 1, 2, "voting"))
ONCE = ("any", ("all", ("yeas", 0, ("parameter", 0)), ("quorum", 2, 1)), ("majority", 1, "seats"))
OPTIONS = {"parameters": (2, 1), "premier": 3}
NUMBERS = {"parameters": (2, 1)}

VOTES = [
    (tally, (SEATS, "YNP", 0), {}),
    (passes, (RULE, SEATS, "YYN"), OPTIONS),
    (passes, (RULE, SEATS, "YYNY"), {}),
    (named, (RULE,), {}),
    (passes_at, (RULE, 5, (2, 1, 1)), NUMBERS),
    (no_show, (("all", RULE, ("quorum", 0, 3)), 5), NUMBERS),
    (pairing, (RULE, 4), NUMBERS),
    (parting_counts, (RULE, ONCE, 4), NUMBERS),
    (passes_amount, (RULE, SEATS, (5, 9, 2), 3), OPTIONS),
    (highest_passing, (RULE, SEATS, (5, 9, 2), 100), OPTIONS),
    (is_read_once, (ONCE,), {}),
    (least_yeas, (ONCE, (3, 5, 2)), NUMBERS),
    (least_absences, (ONCE, (3, 5, 2)), NUMBERS),
    (decisive_yeas, (ONCE, (3, 5, 2)), NUMBERS),
    (decisive_absences, (ONCE, (3, 5, 2)), NUMBERS),
]

CHANGES = ((0, 0, None), (0, 2, 0), (1, 1, 3))
EVENTS = (("departs", 3), ("returns", 3), ("departs", 1))
THRESHOLD = (3, 10, 4, 2)

SEATINGS = [
    (is_seating, (4, SEATS), {}),
    (apply_changes, (4, SEATS, CHANGES), {}),
    (inverse_changes, (4, SEATS, CHANGES[:2]), {}),
    (set_holders, (SEATS, CHANGES), {}),
    (changes_between, (((0, 1, None),), ((1, None, 2),)), {}),
    (available, ((3, 1, 4, 0), EVENTS), {}),
    (seated_by_rank, ((3, 1, 4, 0), 2, EVENTS), {}),
    (seated_by_tenure, ((3, 1, 4, 0), 2, EVENTS), {}),
    (qualifies, (THRESHOLD, ((0, 7), (1, 7), (0, 8))), {}),
    (signatures_needed, (THRESHOLD, (5, 1, 2)), {}),
    (further_signatures, (THRESHOLD, (5, 1, 2)), {}),
]

LINES = ("a", "b", "c")
EDITS = ((0, (), ("x",)), (0, ("a",), ("y", "z")), (2, ("c",), ()))
MIXED = (EDITS[2], EDITS[1], EDITS[0], (1, ("b", "c"), ()))
FLAGS = (True, True, False, True)
SCRIPT = (("insert", "x"), ("remove", "a"), ("keep",))
OTHER = (("keep",), ("insert", ""), ("keep",))

TEXTS = [
    (applies, (LINES, EDITS[1]), {}),
    (in_order, (EDITS,), {}),
    (apply_edits, (LINES, EDITS), {}),
    (line_origins, (LINES, EDITS), {}),
    (conflict, (EDITS[2], MIXED[3]), {}),
    (first_conflict, (MIXED,), {}),
    (sorted_edits, (MIXED,), {}),
    (inverse_edits, (EDITS,), {}),
    (perform, (LINES, EDITS, (1, 2, 0)), {}),
    (script_of, (EDITS,), {}),
    (run_script, (SCRIPT, LINES), {}),
    (normal_form, (SCRIPT,), {}),
    (edits_of, (SCRIPT,), {}),
    (inverse_script, (SCRIPT,), {}),
    (compose, ((SCRIPT, OTHER, SCRIPT[:1]),), {}),
    (alike, (SCRIPT, OTHER), {}),
    (least_text, (SCRIPT, "f"), {}),
    (parting_text, (SCRIPT, OTHER), {}),
    (voting_order, (MIXED,), {}),
    (resolve, (MIXED, FLAGS), {}),
    (adopted_in, (MIXED, FLAGS, (3, 1, 0, 2)), {}),
    (amended, (LINES, MIXED, FLAGS), {}),
]

FIRST = ((0, ("a", "b"), ()), (2, (), ("x",)))
SECOND = ((2, (), ("x",)), (2, ("c",), ()), (0, ("a",), ("y",)), (1, (), ("z",)))
WEIGHED = (FIRST, SECOND, (5, 1), (2, 3, 2, 0))
BILL = ("bill", LINES, tuple((edit, "YY") for edit in FIRST), (1, 0))
REPORT = ("report", LINES, (FIRST[1], SECOND[1]))

CONFERENCE = [
    (is_compatible, (SECOND,), {}),
    (is_compromise, (FIRST, SECOND, FIRST), {}),
    (scheduling_order, (SECOND, FIRST), {}),
    (largest, (FIRST, SECOND), {}),
    (is_clique_cover, (FIRST, SECOND, (SECOND[:1], SECOND[1:2], (FIRST[0], SECOND[2]), SECOND[3:])), {}),
    (heaviest, WEIGHED, {}),
    (is_price_cover, (*WEIGHED, (3, 2, 2)), {}),
    (price_bound, (*WEIGHED, (3, 2, 2)), {}),
    (median, (FIRST, SECOND, SECOND[1:]), {}),
    (adopted_edits, (BILL,), {}),
    (resulting_text, (BILL,), {}),
    (resulting_text, (REPORT,), {}),
    (is_valid_bill, (BILL, (True, True)), {}),
    (is_valid_report, (REPORT, BILL, ("bill", LINES, ((SECOND[1], ""),), (0,))), {}),
    (is_valid_statute, (LINES, EDITS, (("x", "y", "z"),)), {}),
]

CALENDAR = (3, (True, False, False, True, False, False, False), (10, 7, 10))

TIMES = [
    (is_leap, (2000,), {}),
    (month_length, (1900, 2), {}),
    (weekday, (1000,), {}),
    (day_of, ((2024, 2, 29),), {}),
    (date_of, (738944,), {}),
    (next_date, ((2024, 2, 29),), {}),
    (add_months, ((2024, 1, 31), 1), {}),
    (is_sitting, (CALENDAR, 14), {}),
    (sitting_day, (CALENDAR, 5), {}),
    (sittings_before, (CALENDAR, 30), {}),
    (last_sitting, (CALENDAR, 13), {}),
]

TREE = (0, 0, 1, 1)
OWN = (1, 2, 3, 4, 5)

BUDGETS = [
    (path, (TREE, 4), {}),
    (descendants, (TREE, 1), {}),
    (common_ancestor, (TREE, 3, 2), {}),
    (distance, (TREE, 3, 2), {}),
    (node_totals, (TREE, OWN), {}),
    (own_amounts, (TREE, (15, 11, 3, 4, 5)), {}),
    (is_consistent_table, (TREE, tuple(zip(OWN, (15, 11, 3, 4, 5)))), {}),
    (complete, (TREE, (10, None, None, 4, None)), {}),
    (complete, (TREE, (10, 2, None, 4, None)), {}),
    (nearest_known, (TREE, (10, None, None, 4, None), 0), {}),
    (open_leaves, (TREE, (10, None, None, 4, None), 0), {}),
    (settle, (TREE, OWN, (1, 1, 2, 6, 0)), {}),
    (settle, (TREE, OWN, (1, 1, 2, 9, 0)), {}),
    (pay, (TREE, OWN, ((3, 7), (4, 5))), {}),
    (divide, (TREE, OWN, ((3, 7), (4, 5))), {}),
    (net_flows, (TREE, OWN, OWN[::-1]), {}),
    (plan_transfers, (TREE, OWN, OWN[::-1]), {}),
    (crossings, (TREE, ((3, 2, 4), (1, 4, 2), (2, 2, 1))), {}),
    (node_prices, (TREE, OWN, OWN[::-1]), {}),
    (lower_bound, (TREE, OWN, OWN[::-1], (0, 1, 0, 1, 2)), {}),
    (released, ((120, 240, 60) * 4,), {}),
    (monthly_releases, ((120, 240, 60) * 4,), {}),
]

CHARTER = charter_of(
    entry_type("seats", ("yeas", 0, 2), basis=((0, 0),), annulled=((1, 2),)), entry_type(basis=((0, 3),)),
)

CHARTERS = [
    (check_charter, (CHARTER,), {}),
    (edges, (CHARTER,), {}),
    (writers, (CHARTER, "seats"), {}),
    (pivotal_member, (CHARTER, 0), {}),
    (is_walk, (CHARTER, (0, 1, 2)), {}),
    (slack, (CHARTER, (0, 1, 2)), {}),
    (reached, (CHARTER,), {}),
    (verify_ranking, (CHARTER, ((2, "mixed", 0), (2, "mixed", -7))), {}),
]

REFUSED = [(question, (RULE, (3, 5)), {}) for question in (least_yeas, least_absences)]
REFUSED += [(question, (RULE, (3, 5)), {}) for question in (decisive_yeas, decisive_absences)]
REFUSED += [(inverse_edits, (MIXED,), {}), (script_of, (MIXED,), {})]
REFUSED += [(largest, (MIXED, ()), {}), (heaviest, (MIXED, (), (1, 2, 3, 4), ()), {})]
REFUSED += [(question, ((), MIXED, (), (1, 2, 3, 4), ()), {}) for question in (is_price_cover, price_bound)]
REFUSED += [(question, (TREE, OWN, (0,) * 5), {}) for question in (net_flows, plan_transfers, node_prices)]
REFUSED += [(lower_bound, (TREE, OWN, (0,) * 5, (0, 2, 0, 0, 0)), {})]
REFUSED += [
    (check_charter, (charter_of(entry_type(), seats=((3,),)),), {}),
    (check_charter, (charter_of(entry_type(), appropriations=()),), {}),
    (check_charter, (charter_of(entry_type(), premier=3),), {}),
    (check_charter, (charter_of(entry_type(), entry_type(basis=((2, 1),))),), {}),
    (check_charter, (charter_of(entry_type(), entry_type("seats")),), {}),
    (check_charter, (charter_of(entry_type(), entry_type(rule=("yeas", 0, 0))),), {}),
]
CALLS = VOTES + SEATINGS + REFUSED + REFUSED_ON_RECORDS
CALLS += TEXTS + CONFERENCE + TIMES + BUDGETS + CHARTERS + CALLS_ON_RECORDS


ERRORS = (
    "(NotReadOnce", "(NotInOrder", "(Conflicting", "(TotalsDiffer", "(BadSeats", "(BadAmounts", "(BadPremier",
    "(BadDependency", "(MissingDependency", "(BadRule", "(BadEntry", "(SittingOutOfOrder", "(CircularRecord",
    "(TooManyOpen", "(NotUnsafe", "(UnsafeCharter", "(NotDetermined",
)


class RepeatedTest(unittest.TestCase):
    def test_the_same_answers_in_any_order(self):
        first = [answer(call) for call in CALLS]
        again = [answer(call) for call in reversed(CALLS)]
        self.assertEqual(first, again[::-1])
        for call, expected in zip(CALLS, first):
            self.assertEqual(answer(call), answer(call))
            self.assertEqual(answer(call), expected)

    def test_every_function_of_the_interface_is_asked(self):
        asked = {function.__name__ for function, _, _ in CALLS}
        self.assertEqual(asked, {name for functions in SIGNATURES.values() for name in functions})

    def test_only_the_refused_calls_are_refused(self):
        errors = [call for call in CALLS if answer(call).startswith(ERRORS)]
        self.assertEqual(errors, REFUSED + REFUSED_ON_RECORDS)

    def test_arguments_are_not_changed(self):
        for call in CALLS:
            _, arguments, options = call
            before = repr(copy.deepcopy((arguments, options)))
            answer(call)
            self.assertEqual(repr((arguments, options)), before)


if __name__ == "__main__":
    unittest.main()
