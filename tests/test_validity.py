"""Points 7, 188, 200, 203, 205 and 207: the validity of records, and what follows from it."""

import inspect
import random
import unittest

import reference
from gazette.circles import dependency_cycle
from gazette.errors import CircularRecord, GazetteError
from gazette.validity import evaluation_order, final_state, history, is_consistent, rounds, validity, was_valid
from samples import KINDS, some_charter, some_record, some_safe_charter
from support import Case, chain, charter_of, entry, entry_type

SINGLE = charter_of(entry_type(annulled=((0, 2),)))
RULINGS = (entry(), entry(effect=("annul", 0)), entry(effect=("annul", 1)))
HASTY = charter_of(entry_type(basis=((0, 0),), annulled=((0, 2),)))
# Two entries annul the one before them in the sittings in which they are based on it.
QUARREL = (
    entry(0, 0, basis=(None,)), entry(0, 3, basis=(None,)), entry(0, 4, basis=(None,), effect=("annul", 1)),
    entry(0, 5, basis=(None,)), entry(0, 5, basis=(None,), effect=("annul", 3)),
)
TREASURY = charter_of(
    entry_type("budget", basis=((0, 0), (1, 0)), annulled=((2, 3),)),
    entry_type("payments", basis=((0, 0), (1, 0)), annulled=((2, 3),)), entry_type(),
    tree=(0, 0), appropriations=(5, 3, 0),
)


class CircleCase(Case):
    def circular(self, expected, question, *arguments):
        with self.assertRaises(GazetteError) as caught:
            question(*arguments)
        self.assertIs(caught.exception.__class__, CircularRecord)
        self.same(caught.exception.circle, expected)


class ConsistentTest(Case):
    def test_exactly_the_valid_entries(self):
        self.same(is_consistent(SINGLE, RULINGS, (True, False, True)), True)
        for statuses in ((True, True, True), (False, False, True), (True, False, False), (False, False, False)):
            self.same(is_consistent(SINGLE, RULINGS, statuses), False)

    def test_the_empty_record(self):
        self.same(is_consistent(SINGLE, (), ()), True)
        self.same(is_consistent(SINGLE, (), (True,)), False)
        self.same(is_consistent(SINGLE, (), (False,)), False)

    def test_one_item_too_many_and_too_few(self):
        self.same(is_consistent(SINGLE, RULINGS, (True, False)), False)
        self.same(is_consistent(SINGLE, RULINGS, (True, False, True, True)), False)
        self.same(is_consistent(SINGLE, RULINGS, ()), False)
        self.same(is_consistent(SINGLE, (entry(),) * 40, (True,) * 40), True)
        self.same(is_consistent(SINGLE, (entry(),) * 40, (True,) * 41), False)

    def test_records_with_circles(self):
        cured = charter_of(entry_type(basis=((0, 0),), cured=((0, 1),)))
        record = (entry(0, 0, "---", (None,)), entry(0, 0, basis=(0,), effect=("cure", 0)))
        self.same(is_consistent(cured, record, (True, True)), True)
        self.same(is_consistent(cured, record, (False, False)), True)
        self.same(is_consistent(cured, record, (True, False)), False)
        record = (QUARREL[0], entry(0, 0, basis=(0,), effect=("annul", 0)))
        for statuses in ((True, True), (True, False), (False, True), (False, False)):
            self.same(is_consistent(HASTY, record, statuses), False)


class RoundsTest(Case):
    def test_a_generator(self):
        self.assertTrue(inspect.isgeneratorfunction(rounds))

    def test_as_many_as_entries(self):
        self.same(tuple(rounds(SINGLE, RULINGS, (True, True, True))), (
            (False, False, True), (True, False, True), (True, False, True)))
        self.same(tuple(rounds(SINGLE, RULINGS, (False, False, False))), (
            (True, True, True), (False, False, True), (True, False, True)))
        self.same(tuple(rounds(SINGLE, (), ())), ())

    def test_where_nothing_changes_any_more(self):
        self.same(tuple(rounds(SINGLE, RULINGS, (True, False, True))), ((True, False, True),) * 3)

    def test_statuses_that_never_settle(self):
        record = (entry(0, 0, basis=(None,)), entry(0, 0, basis=(0,), effect=("annul", 0)))
        self.same(tuple(rounds(HASTY, record, (True, True))), ((False, True), (False, False)))
        self.same(tuple(rounds(HASTY, record, (False, False))), ((True, False), (True, True)))

    def test_two_of_them_side_by_side(self):
        one, other = rounds(SINGLE, RULINGS, (True,) * 3), rounds(SINGLE, RULINGS, (False,) * 3)
        self.same([next(one), next(other), next(one), next(other)], [
            (False, False, True), (True, True, True), (True, False, True), (False, False, True)])


class EvaluationOrderTest(Case):
    def test_order(self):
        self.same(evaluation_order(SINGLE, ()), ())
        self.same(evaluation_order(SINGLE, RULINGS), (2, 1, 0))
        self.same(evaluation_order(SINGLE, (entry(),) * 4), (0, 1, 2, 3))

    def test_the_lowest_number_that_can_stand_at_each_place(self):
        record = (
            entry(), entry(), entry(effect=("annul", 0)), entry(), entry(effect=("annul", 1)),
            entry(effect=("annul", 2)),
        )
        self.same(evaluation_order(SINGLE, record), (3, 4, 1, 5, 2, 0))
        record = (entry(), entry(), entry(effect=("annul", 1)), entry(effect=("annul", 0)), entry(effect=("annul", 2)))
        self.same(evaluation_order(SINGLE, record), (3, 0, 4, 2, 1))

    def test_backward_and_forward(self):
        charter = charter_of(entry_type(annulled=((1, 1),)), entry_type(basis=((0, 2),)))
        record = (entry(0, 0), entry(1, 1, basis=(None,), effect=("annul", 0)), entry(1, 2, basis=(0,)), entry(0, 2))
        self.same(evaluation_order(charter, record), (1, 0, 2, 3))

    def test_a_circle(self):
        self.same(evaluation_order(HASTY, QUARREL), None)
        self.same(evaluation_order(HASTY, QUARREL[:2]), (0, 1))

    def test_by_trying_each_number(self):
        numbers = random.Random(203)
        turned = 0
        for _ in range(400):
            charter = some_charter(numbers, numbers.randint(1, 4))
            record = some_record(numbers, charter, 10)
            needs = reference.graph(charter, record)
            order = []
            ready = [0]
            while ready:
                ready = [
                    one for one in range(10) if one not in order and all(other in order for other in needs[one])
                ]
                order += ready[:1]
            self.same(evaluation_order(charter, record), tuple(order) if len(order) == 10 else None)
            turned += len(order) == 10 and order != sorted(order)
        self.assertGreater(turned, 30)


class ValidityTest(CircleCase):
    def test_validity(self):
        self.same(validity(SINGLE, ()), ())
        self.same(validity(SINGLE, RULINGS), (True, False, True))
        self.same(validity(SINGLE, RULINGS[:2]), (False, True))

    def test_a_circle(self):
        self.circular((1, 2), validity, HASTY, QUARREL)
        self.circular((1, 2), validity, HASTY, QUARREL[:3])
        self.same(validity(HASTY, QUARREL[:2]), (True, True))

    def test_40_entries_that_hang_on_each_other(self):
        record = chain(range(40))
        self.same(validity(SINGLE, record), (False, True) * 20)
        self.same(validity(SINGLE, record[:39]), (True,) + (False, True) * 19)

    def test_the_only_consistent_statuses(self):
        numbers = random.Random(7)
        for _ in range(150):
            kinds = numbers.choice((KINDS, ("none",), ("none", "seats", "appointment"), ("budget", "payments", "none")))
            charter = some_safe_charter(numbers, numbers.randint(1, 5), kinds)
            record = some_record(numbers, charter, 6)
            statuses = validity(charter, record)
            self.same(reference.all_consistent(charter, record), (statuses,))
            self.assertTrue(is_consistent(charter, record, statuses))
            for start in ((True,) * 6, (False,) * 6, tuple(numbers.random() < 0.5 for _ in range(6))):
                self.same(tuple(rounds(charter, record, start))[-1], statuses)


class FinalStateTest(CircleCase):
    def test_the_empty_record(self):
        self.same(final_state(TREASURY, ()), (((0, 1, 2),), (), (), (5, 3, 0), 0))

    def test_remaining_funds(self):
        payment = entry(1, 0, basis=(None, None), payload=("payments", ((1, 4), (2, 1))))
        self.same(final_state(TREASURY, (payment,))[3], (3, 0, 0))
        self.same(final_state(TREASURY, (payment, payment))[3], (3, 0, 0))
        other = entry(1, 0, basis=(None, None), payload=("payments", ((1, 3),)))
        self.same(final_state(TREASURY, (payment, other))[3], (0, 0, 0))

    def test_what_a_budget_leaves(self):
        payment = entry(1, 0, basis=(None, None), payload=("payments", ((1, 4), (2, 1))))
        budget = entry(0, 0, basis=(None, None), payload=("budget", ((1, 8), (3, 3), (4, 4))))
        self.same(validity(TREASURY, (payment, budget)), (True, True))
        self.same(final_state(TREASURY, (payment, budget))[3], (0, 0, 3))

    def test_entries_that_are_not_valid_do_not_count(self):
        payment = entry(1, 0, basis=(None, None), payload=("payments", ((1, 4), (2, 1))))
        self.same(final_state(TREASURY, (payment, entry(2, 0, effect=("annul", 0))))[3], (5, 3, 0))
        self.same(final_state(TREASURY, (entry(1, 0, "NNN", (None, None), None, payment[5]),))[3], (5, 3, 0))

    def test_all_components(self):
        kinds = ("seats", "parameters", "statute", "appointment")
        charter = charter_of(
            *[entry_type(kind, basis=((number, 0),)) for number, kind in enumerate(kinds)],
            parameters=(1, 2), statutes=("a",), tree=(0,), appropriations=(7, 2),
        )
        payloads = (
            ("seats", ((0, 1, None),)), ("parameters", ((1, 9),)), ("statute", ((1, (), ("b",)),)),
            ("appointment", None),
        )
        record = tuple(entry(number, basis=(None,), payload=payload) for number, payload in enumerate(payloads))
        self.same(final_state(charter, record), (((0, None, 2),), (1, 9), ("a", "b"), (7, 2), None))

    def test_a_circle(self):
        self.circular((1, 2), final_state, HASTY, QUARREL)


class HistoryTest(CircleCase):
    def test_was_valid(self):
        self.same([was_valid(SINGLE, RULINGS, length, 0) for length in (1, 2, 3)], [True, False, True])
        self.same([was_valid(SINGLE, RULINGS, length, 1) for length in (2, 3)], [True, False])
        self.same(was_valid(SINGLE, RULINGS, 3, 2), True)

    def test_no_change(self):
        self.same(history(SINGLE, RULINGS, 2), ((3, True),))
        self.same(history(SINGLE, (entry(), entry(), entry()), 0), ((1, True),))
        self.same(history(SINGLE, (entry(0, 0, "NNN"), entry(effect=("annul", 0))), 0), ((1, False),))

    def test_several_changes(self):
        self.same(history(SINGLE, RULINGS, 0), ((1, True), (2, False), (3, True)))
        record = RULINGS + (entry(), entry(), entry(effect=("annul", 2)), entry(), entry(effect=("annul", 5)))
        self.same(history(SINGLE, record, 0), ((1, True), (2, False), (3, True), (6, False), (8, True)))
        self.same(history(SINGLE, record, 1), ((2, True), (3, False), (6, True), (8, False)))

    def test_an_entry_that_is_ratified_later(self):
        charter = charter_of(entry_type(ratified=((1, 2),)), entry_type())
        record = (entry(), entry(1), entry(1, effect=("ratify", 0)))
        self.same(history(charter, record, 0), ((1, False), (3, True)))

    def test_a_record_whose_first_entries_have_no_circle(self):
        self.same(was_valid(HASTY, QUARREL, 2, 1), True)
        self.circular((1, 2), was_valid, HASTY, QUARREL, 3, 1)
        self.circular((1, 2), was_valid, HASTY, QUARREL, 5, 0)

    def test_a_circle_of_the_whole_record(self):
        # The circle of the first entries has three entries, that of the whole record two.
        slow = charter_of(
            entry_type(basis=((0, 2),), annulled=((0, 1),)), entry_type(basis=((1, 0),), annulled=((1, 1),)),
        )
        record = chain(range(3), (None,)) + (
            entry(1, 2, basis=(None,)), entry(1, 2, basis=(None,), effect=("annul", 3)),
        )
        self.same(dependency_cycle(slow, record)[0], (3, 4))
        self.circular((0, 1, 2), was_valid, slow, record, 3, 0)
        self.circular((0, 1, 2), was_valid, slow, record, 4, 3)
        self.circular((3, 4), was_valid, slow, record, 5, 3)
        self.same(was_valid(slow, record, 2, 0), False)
        for number in range(5):
            self.circular((3, 4), history, slow, record, number)

    def test_circles_never_go_away(self):
        # "The other way round" of a circle in the whole record alone cannot occur: entries only add dependencies.
        numbers = random.Random(207)
        for _ in range(200):
            charter = some_charter(numbers, numbers.randint(1, 3))
            record = some_record(numbers, charter, 8)
            found = [dependency_cycle(charter, record[:length]) is not None for length in range(9)]
            self.same(found, sorted(found))

    def test_against_each_length(self):
        numbers = random.Random(3)
        changes = 0
        for _ in range(100):
            charter = some_safe_charter(numbers, numbers.randint(1, 4), numbers.choice((KINDS, ("none",))))
            record = some_record(numbers, charter, 6)
            statuses = [reference.all_consistent(charter, record[:length])[0] for length in range(7)]
            for number in range(6):
                told = [(length, statuses[length][number]) for length in range(number + 1, 7)]
                expected = told[:1] + [new for old, new in zip(told, told[1:]) if old[1] != new[1]]
                self.same(history(charter, record, number), tuple(expected))
                changes += len(expected) - 1
        self.assertGreater(changes, 20)


if __name__ == "__main__":
    unittest.main()
