"""Points 41, 61, 143, 183 and 184: states, payloads that change them, and what entries observe."""

import unittest

from gazette.states import apply_payload, observed_state, start_state, state_after
from support import Case, charter_of, entry, entry_type

CHARTER = charter_of(
    entry_type("seats", basis=((0, 0),)), entry_type("appointment", basis=((1, 0),)),
    entry_type(basis=((0, 2), (1, 0))),
    seats=((0, 1, 2), (1, None)), parameters=(5, 6), statutes=("a", "b"), tree=(0, 0), appropriations=(7, 8, 9),
    premier=2,
)
START = (((0, 1, 2), (1, None)), (5, 6), ("a", "b"), (7, 8, 9), (0, 0, 0), 2)


class StartTest(Case):
    def test_start(self):
        self.same(start_state(CHARTER), START)
        self.same(start_state(charter_of(entry_type())), (((0, 1, 2),), (), (), (0,), (0,), 0))


class ApplyTest(Case):
    def changed(self, payload, component, expected, state=START):
        after = state[:component] + (expected,) + state[component + 1:]
        self.same(apply_payload(state, payload), after)

    def unchanged(self, payload, state=START):
        self.same(apply_payload(state, payload), state)

    def test_payloads_that_change_nothing(self):
        self.unchanged(None)
        self.unchanged(("bill", ("a", "b"), (((0, ("a",), ()), "YYY"),), (0,)))
        self.unchanged(("report", ("a", "b"), ((0, ("a",), ()),)))
        self.unchanged(("petition", ((0, 0), (1, 7))))

    def test_seats(self):
        self.changed(("seats", ((0, 1, None), (1, 1, 0))), 0, ((0, None, 2), (1, 0)))

    def test_seats_are_set_even_if_the_changes_are_not_valid(self):
        self.changed(("seats", ((0, 0, 1), (1, 1, None))), 0, ((1, 1, 2), (1, None)))
        self.changed(("seats", ((1, 1, 11), (0, 0, 0))), 0, ((0, 1, 2), (1, 11)))

    def test_seats_that_do_not_exist(self):
        self.unchanged(("seats", ((0, 3, None), (1, 2, 0), (2, 0, 0), (3, 11, None))))
        self.changed(("seats", ((2, 0, 0), (0, 0, None))), 0, ((None, 1, 2), (1, None)))

    def test_parameters(self):
        self.changed(("parameters", ((1, 1000),)), 1, (5, 1000))
        self.changed(("parameters", ((0, 1), (1, 2), (0, 3))), 1, (3, 2))

    def test_parameters_that_do_not_exist(self):
        self.unchanged(("parameters", ((2, 9), (7, 9))))
        self.changed(("parameters", ((7, 9), (0, 9))), 1, (9, 6))
        self.unchanged(("parameters", ((0, 9),)), state=(((),), (), (), (0,), (0,), None))

    def test_statutes(self):
        self.changed(("statute", ((0, ("a",), ("x", "y")), (2, (), ("z",)))), 2, ("x", "y", "b", "z"))
        self.changed(("statute", ((0, ("a", "b"), ()),)), 2, ())

    def test_statutes_whose_edits_do_not_apply(self):
        self.unchanged(("statute", ((0, ("b",), ()),)))
        self.unchanged(("statute", ((3, (), ("x",)),)))
        self.unchanged(("statute", ((0, (), ("x",)), (1, ("c",), ()))))
        self.unchanged(("statute", ((2, (), ("x",)), (0, ("a",), ()))))

    def test_a_statute_book_may_grow_beyond_30_lines(self):
        book = ("l",) * 30
        state = START[:2] + (book,) + START[3:]
        self.changed(("statute", ((30, (), ("x", "y")),)), 2, book + ("x", "y"), state=state)

    def test_budgets(self):
        self.changed(("budget", ((1, 6), (2, 2), (3, 3))), 3, (1, 2, 3))

    def test_budgets_with_wrong_totals(self):
        self.changed(("budget", ((1, 0), (2, 9), (3, 4))), 3, (1, 2, 3))

    def test_budgets_with_too_few_and_too_many_rows(self):
        self.changed(("budget", ((4, 4),)), 3, (4, 0, 0))
        self.changed(("budget", ((4, 4), (1, 1))), 3, (4, 1, 0))
        self.changed(("budget", ((4, 4), (1, 1), (2, 2), (3, 3), (9, 9))), 3, (4, 1, 2))

    def test_payments(self):
        self.changed(("payments", ((1, 5), (2, 6), (1, 7))), 4, (0, 12, 6))
        self.changed(("payments", ((0, 1000000),)), 4, (1000000, 0, 0))

    def test_payments_are_added_to_what_has_been_spent(self):
        state = START[:4] + ((1, 2, 3), 2)
        self.changed(("payments", ((2, 6), (0, 0))), 4, (1, 2, 9), state=state)

    def test_payments_at_nodes_that_do_not_exist(self):
        self.unchanged(("payments", ((3, 5), (11, 5))))
        self.changed(("payments", ((3, 5), (1, 5))), 4, (0, 5, 0))

    def test_appointments(self):
        self.changed(("appointment", 0), 5, 0)
        self.changed(("appointment", None), 5, None)
        self.changed(("appointment", 11), 5, 11)
        self.unchanged(("appointment", 2))


VACATE, FILL = ("seats", ((0, 0, None),)), ("seats", ((0, 0, 1),))
RECORD = (
    entry(0, 0, basis=(None,), payload=VACATE), entry(1, 1, basis=(None,), payload=("appointment", 0)),
    entry(0, 2, basis=(None,), payload=FILL), entry(2, 2, basis=(None, None)),
    entry(1, 3, basis=(None,), payload=("appointment", 1)), entry(2, 4, basis=(2, 4)),
)


class StateAfterTest(Case):
    def after(self, statuses, row, premier):
        self.same(state_after(CHARTER, RECORD, statuses), ((row, (1, None)),) + START[1:5] + (premier,))

    def test_only_entries_assigned_valid_count(self):
        self.after((False,) * 6, (0, 1, 2), 2)
        self.after((True,) * 6, (1, 1, 2), 1)
        self.after((True, True, False, True, False, True), (None, 1, 2), 0)
        self.after((False, True, False, False, True, False), (0, 1, 2), 1)

    def test_the_order_of_the_record(self):
        record = (RECORD[2], RECORD[0])
        self.same(state_after(CHARTER, record, (True, True))[0], ((None, 1, 2), (1, None)))
        self.same(state_after(CHARTER, record[::-1], (True, True))[0], ((1, 1, 2), (1, None)))

    def test_the_empty_record(self):
        self.same(state_after(CHARTER, (), ()), START)


class ObservedStateTest(Case):
    def observed(self, statuses, number, row, premier):
        state = observed_state(CHARTER, RECORD, statuses, number)
        self.same(state, ((row, (1, None)),) + START[1:5] + (premier,))

    def test_only_entries_on_which_it_depends_backward(self):
        self.observed((True,) * 6, 0, (0, 1, 2), 2)
        self.observed((True,) * 6, 1, (0, 1, 2), 2)
        self.observed((True,) * 6, 2, (None, 1, 2), 2)
        self.observed((True,) * 6, 3, (None, 1, 2), 0)
        self.observed((True,) * 6, 4, (0, 1, 2), 0)
        self.observed((True,) * 6, 5, (1, 1, 2), 1)

    def test_only_entries_assigned_valid(self):
        self.observed((False, True, True, True, False, True), 5, (1, 1, 2), 0)
        self.observed((True, False, False, True, True, True), 5, (None, 1, 2), 1)
        self.observed((False,) * 6, 5, (0, 1, 2), 2)

    def test_its_own_status_makes_no_difference(self):
        self.observed((True,) * 5 + (False,), 5, (1, 1, 2), 1)

    def test_effects_make_no_difference(self):
        charter = charter_of(entry_type("appointment", basis=((0, 0),), annulled=((0, 1),)))
        record = (
            entry(basis=(None,), payload=("appointment", 1)),
            entry(basis=(None,), effect=("annul", 0), payload=("appointment", 2)),
        )
        self.same(observed_state(charter, record, (True, True), 0)[5], 0)
        self.same(observed_state(charter, record, (True, True), 1)[5], 1)


if __name__ == "__main__":
    unittest.main()
