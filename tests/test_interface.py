"""The names, arguments and default values of the interface, and the file in which each function stands."""

import importlib
import inspect
import unittest

SIGNATURES = {
    "tallies": {"tally": "(seats, roll_call, chamber)"},
    "rules": {
        "passes": "(rule, seats, roll_call, *, parameters=(), premier=None)",
        "named": "(rule)",
    },
    "isolation": {
        "passes_at": "(rule, size, counts, *, parameters=())",
        "no_show": "(rule, size, *, parameters=())",
        "pairing": "(rule, size, *, parameters=())",
        "parting_counts": "(first, second, size, *, parameters=())",
    },
    "blanks": {
        "passes_amount": "(rule, seats, maxima, amount, *, parameters=(), premier=None)",
        "highest_passing": "(rule, seats, maxima, cap, *, parameters=(), premier=None)",
    },
    "whips": {
        "is_read_once": "(rule)",
        "least_yeas": "(rule, sizes, *, parameters=())",
        "least_absences": "(rule, sizes, *, parameters=())",
        "decisive_yeas": "(rule, sizes, *, parameters=())",
        "decisive_absences": "(rule, sizes, *, parameters=())",
    },
    "seats": {
        "is_seating": "(members, seats)",
        "apply_changes": "(members, seats, changes)",
        "inverse_changes": "(members, seats, changes)",
        "set_holders": "(seats, changes)",
        "changes_between": "(before, after)",
    },
    "substitutes": {
        "available": "(ranked, events)",
        "seated_by_rank": "(ranked, many, events)",
        "seated_by_tenure": "(ranked, many, events)",
    },
    "petitions": {
        "qualifies": "(threshold, signatures)",
        "signatures_needed": "(threshold, counts)",
        "further_signatures": "(threshold, counts)",
    },
    "edits": {
        "applies": "(lines, edit)",
        "in_order": "(edits)",
        "apply_edits": "(lines, edits)",
        "line_origins": "(lines, edits)",
        "conflict": "(first, second)",
        "first_conflict": "(edits)",
        "sorted_edits": "(edits)",
        "inverse_edits": "(edits)",
        "perform": "(lines, edits, order)",
    },
    "scripts": {
        "script_of": "(edits)",
        "run_script": "(script, lines)",
        "normal_form": "(script)",
        "edits_of": "(script)",
        "inverse_script": "(script)",
    },
    "composing": {
        "compose": "(scripts)",
        "alike": "(first, second)",
        "least_text": "(script, filler)",
        "parting_text": "(first, second)",
    },
    "amendments": {
        "voting_order": "(edits)",
        "resolve": "(edits, flags)",
        "adopted_in": "(edits, flags, order)",
        "amended": "(lines, edits, flags)",
    },
    "compromises": {
        "is_compatible": "(edits)",
        "is_compromise": "(first, second, edits)",
        "scheduling_order": "(first, second)",
        "largest": "(first, second)",
        "is_clique_cover": "(first, second, groups)",
    },
    "weights": {
        "heaviest": "(first, second, first_weights, second_weights)",
        "is_price_cover": "(first, second, first_weights, second_weights, prices)",
        "price_bound": "(first, second, first_weights, second_weights, prices)",
    },
    "medians": {"median": "(first, second, third)"},
    "bills": {
        "adopted_edits": "(bill)",
        "resulting_text": "(document)",
        "is_valid_bill": "(bill, flags)",
        "is_valid_report": "(report, first, second)",
        "is_valid_statute": "(book, edits, texts)",
    },
    "dates": {
        "is_leap": "(year)",
        "month_length": "(year, month)",
        "weekday": "(day)",
        "day_of": "(date)",
        "date_of": "(day)",
        "next_date": "(date)",
        "add_months": "(date, months)",
    },
    "sittings": {
        "is_sitting": "(calendar, day)",
        "sitting_day": "(calendar, sitting)",
        "sittings_before": "(calendar, day)",
        "last_sitting": "(calendar, day)",
    },
    "trees": {
        "path": "(tree, node)",
        "descendants": "(tree, node)",
        "common_ancestor": "(tree, first, second)",
        "distance": "(tree, first, second)",
        "node_totals": "(tree, own)",
        "own_amounts": "(tree, totals)",
        "is_consistent_table": "(tree, rows)",
    },
    "partial": {
        "complete": "(tree, known)",
        "nearest_known": "(tree, known, node)",
        "open_leaves": "(tree, known, node)",
    },
    "reserves": {
        "settle": "(tree, funds, claims)",
        "pay": "(tree, funds, payments)",
        "divide": "(tree, funds, payments)",
    },
    "transfers": {
        "net_flows": "(tree, before, after)",
        "plan_transfers": "(tree, before, after)",
        "crossings": "(tree, transfers)",
        "node_prices": "(tree, before, after)",
        "lower_bound": "(tree, before, after, prices)",
    },
    "twelfths": {
        "released": "(amounts)",
        "monthly_releases": "(amounts)",
    },
    "charters": {
        "check_charter": "(charter)",
        "edges": "(charter)",
        "writers": "(charter, component)",
        "pivotal_member": "(charter, number)",
    },
    "walks": {
        "is_walk": "(charter, numbers)",
        "slack": "(charter, numbers)",
        "reached": "(charter)",
    },
    "rankings": {"verify_ranking": "(charter, ranking)"},
    "cycles": {
        "analyze": "(charter)",
        "verify_cycle": "(charter, numbers)",
        "determinate_types": "(charter)",
    },
    "records": {
        "check_record": "(charter, record)",
        "backward": "(charter, record, entry)",
        "forward": "(charter, record, entry)",
    },
    "states": {
        "start_state": "(charter)",
        "apply_payload": "(state, payload)",
        "state_after": "(charter, record, statuses)",
        "observed_state": "(charter, record, statuses, entry)",
    },
    "payloads": {"is_correct": "(charter, state, number, payload, cited)"},
    "entries": {
        "cited": "(charter, record, statuses, entry)",
        "is_procedural": "(charter, record, statuses, entry)",
        "is_substantive": "(charter, record, statuses, entry)",
        "valid_under": "(charter, record, statuses, entry)",
        "objections": "(charter, record, statuses, entry)",
        "revised": "(charter, record, statuses)",
    },
    "circles": {
        "dependency_cycle": "(charter, record)",
        "determined": "(charter, record)",
    },
    "validity": {
        "is_consistent": "(charter, record, statuses)",
        "rounds": "(charter, record, statuses)",
        "evaluation_order": "(charter, record)",
        "validity": "(charter, record)",
        "final_state": "(charter, record)",
        "was_valid": "(charter, record, length, entry)",
        "history": "(charter, record, entry)",
    },
    "assignments": {"assignments": "(charter, record)"},
    "pruning": {"prune": "(charter, record, statuses)"},
    "counterexamples": {
        "counterexample_of": "(charter, numbers)",
        "counterexample": "(charter)",
    },
    "bounds": {
        "slack_bounds": "(charter)",
        "verify_bounds": "(charter, bounds)",
        "finality": "(charter)",
    },
    "reversals": {
        "reversal_walk": "(charter, number, *, sitting=0)",
        "latest_reversal": "(charter, number, *, sitting=0)",
    },
    "certificates": {
        "closure": "(charter, record, entry)",
        "certificate": "(charter, record, entry)",
        "verify_certificate": "(charter, record, entry, certificate)",
        "impact": "(charter, record, number, action, entry)",
    },
}


class InterfaceTest(unittest.TestCase):
    def test_signatures(self):
        for module_name, functions in SIGNATURES.items():
            module = importlib.import_module("gazette." + module_name)
            for name, signature in functions.items():
                with self.subTest(module=module_name, function=name):
                    function = getattr(module, name)
                    self.assertTrue(inspect.isfunction(function))
                    self.assertEqual(str(inspect.signature(function)), signature)

    def test_each_function_stands_in_its_own_file(self):
        for module_name, functions in SIGNATURES.items():
            module = importlib.import_module("gazette." + module_name)
            for name in functions:
                self.assertEqual(getattr(module, name).__module__, "gazette." + module_name)


if __name__ == "__main__":
    unittest.main()
