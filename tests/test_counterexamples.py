"""Points 7, 160, 161, 220 and 221: counterexamples of unsafe cycles."""

import random
import unittest

import reference
from gazette.assignments import assignments
from gazette.charters import edges
from gazette.circles import dependency_cycle, determined
from gazette.counterexamples import counterexample, counterexample_of
from gazette.cycles import analyze, verify_cycle
from gazette.errors import GazetteError, NotUnsafe, TooManyOpen
from gazette.records import check_record
from gazette.validity import is_consistent
from samples import ratified_charters
from support import Case, charter_of, entry, entry_type

PLAIN = entry_type()
NOBODY = "---"


def pair(delay, within, name="annulled"):
    """Type 0 is based on type 1, and type 1 has an edge forward to type 0."""
    return charter_of(entry_type(basis=((1, delay),)), entry_type(**{name: ((0, within),)}))


class CounterexampleCase(Case):
    def made(self, charter, numbers, record, *consistent):
        self.same(counterexample_of(charter, numbers), (record, consistent))
        self.same(reference.all_consistent(charter, record), consistent)


class CounterexampleOfTest(CounterexampleCase):
    def test_an_odd_number_of_annulments(self):
        self.made(pair(2, 2), (0, 1), (entry(1), entry(0, 2, basis=(0,), effect=("annul", 0))))

    def test_an_even_number_of_annulments(self):
        # The cycle goes twice along the same edges; equal sittings and equal ranks are ordered by number.
        self.made(
            pair(2, 2), (0, 1, 0, 1),
            (
                entry(1), entry(1), entry(0, 2, basis=(0,), effect=("annul", 1)),
                entry(0, 2, basis=(1,), effect=("annul", 0)),
            ),
            (True, False, True, False), (False, True, False, True))

    def test_cycles_that_begin_elsewhere(self):
        record = (entry(1), entry(0, 2, basis=(0,), effect=("annul", 0)))
        self.made(pair(2, 2), (1, 0), record)

    def test_a_cure(self):
        self.made(
            pair(1, 1, "cured"), (0, 1), (entry(1, 0, NOBODY), entry(0, 1, basis=(0,), effect=("cure", 0))),
            (True, True), (False, False))

    def test_a_ratification(self):
        # Cycle entry 1 is ratified by cycle entry 0, so it is not followed by a ratification.
        self.made(
            pair(0, 1, "ratified"), (0, 1), (entry(1), entry(0, 0, basis=(0,), effect=("ratify", 0))),
            (True, True), (False, False))

    def test_a_deadline_that_is_only_partly_used_up(self):
        self.made(pair(2, 12), (0, 1), (entry(1), entry(0, 2, basis=(0,), effect=("annul", 0))))
        charter = charter_of(entry_type(basis=((0, 3),), annulled=((0, 2),)))
        # Three sittings are to be made up: by 2, by 1, and the third annulment does not lead to a later one.
        self.made(charter, (0, 1, 1, 1), (
            entry(0, 0, basis=(None,)), entry(0, 2, basis=(None,), effect=("annul", 0)),
            entry(0, 3, basis=(None,), effect=("annul", 1)), entry(0, 3, basis=(0,), effect=("annul", 2)),
        ))

    def test_forward_edges_before_the_backward_one(self):
        charter = charter_of(entry_type(basis=((0, 3),), annulled=((0, 2),)))
        self.made(charter, (1, 1, 1, 0), (
            entry(0, 0, basis=(None,)), entry(0, 2, basis=(None,), effect=("annul", 0)),
            entry(0, 3, basis=(None,), effect=("annul", 1)), entry(0, 3, basis=(0,), effect=("annul", 2)),
        ))
        self.made(
            charter, (1, 1, 0, 1), (
                entry(0, 0, basis=(None,)), entry(0, 0, basis=(None,), effect=("annul", 0)),
                entry(0, 2, basis=(None,), effect=("annul", 1)), entry(0, 3, basis=(0,), effect=("annul", 2)),
            ))

    def test_no_delay_at_all(self):
        charter = charter_of(entry_type(basis=((0, 0),), annulled=((0, 4),), cured=((0, 2),)))
        self.made(charter, (0, 1), (entry(0, 0, basis=(None,)), entry(0, 0, basis=(0,), effect=("annul", 0))))
        # Edges 0, 1 and 2 are the basis, the annulment and the cure. All sittings are equal, the ranks are 0, -2, 0, -1
        # for (0, 1, 2): one backward edge and two forward ones.
        self.made(charter, (0, 2, 1), (
            entry(0, 0, NOBODY, (None,)), entry(0, 0, basis=(None,), effect=("cure", 0)),
            entry(0, 0, basis=(0,), effect=("annul", 1)),
        ))

    def test_ranks_before_numbers(self):
        # Cycle entries 0 to 3 have the ranks 0, -2, -4 and -2, all in sitting 0.
        charter = charter_of(entry_type(basis=((0, 0),), annulled=((0, 4),)))
        self.made(
            charter, (0, 0, 1, 1), (
                entry(0, 0, basis=(None,)), entry(0, 0, basis=(0,)), entry(0, 0, basis=(None,), effect=("annul", 0)),
                entry(0, 0, basis=(1,), effect=("annul", 2)),
            ), (True, True, False, True), (False, False, True, False))

    def test_the_place_of_the_edge_in_the_basis(self):
        charter = charter_of(
            entry_type(basis=((2, 5), (1, 2), (0, 0)), cured=((1, 1),)), entry_type(cured=((0, 3),)), PLAIN,
        )
        self.made(
            charter, (1, 4), (entry(1, 0, NOBODY), entry(0, 2, basis=(None, 0, None), effect=("cure", 0))),
            (True, True), (False, False))

    def test_types_that_have_to_be_ratified(self):
        # Both types of the cycle have to be ratified: by the first type that is named.
        charter = charter_of(
            entry_type(basis=((1, 1),), ratified=((3, 1), (2, 4))), entry_type(annulled=((0, 2),), ratified=((2, 1),)),
            entry_type(basis=((0, 3), (1, 3))), PLAIN,
        )
        self.made(charter, (0, 3), (
            entry(1), entry(2, 0, basis=(None, None), effect=("ratify", 0)),
            entry(0, 1, basis=(0,), effect=("annul", 0)), entry(3, 1, effect=("ratify", 2)),
        ))

    def test_ratifications_are_valid_in_both_statuses(self):
        charter = charter_of(entry_type(basis=((1, 1),), ratified=((2, 4),)), entry_type(cured=((0, 2),)), PLAIN)
        self.made(
            charter, (0, 2), (
                entry(1, 0, NOBODY), entry(0, 1, basis=(0,), effect=("cure", 0)), entry(2, 1, effect=("ratify", 1)),
            ), (True, True, True), (False, False, True))

    def test_a_cycle_through_a_ratification_and_another_one_beside_it(self):
        charter = charter_of(entry_type(basis=((1, 1),), ratified=((1, 2),)), entry_type(basis=((0, 0),)))
        # Edges: 0 to 1 backward (0), 0 to 1 ratified (1), 1 to 0 backward (2).
        self.made(
            charter, (1, 2), (
                entry(0, 0, basis=(None,)), entry(1, 0, basis=(0,), effect=("ratify", 0)),
            ), (True, True), (False, False))
        # Cycle entries 2, 1, 0 and 3; only cycle entry 0 is followed by a ratification.
        self.made(
            charter, (0, 2, 1, 2), (
                entry(0, 0, basis=(None,)), entry(1, 0, basis=(0,)),
                entry(0, 1, basis=(1,)), entry(1, 1, basis=(None,), effect=("ratify", 2)),
                entry(1, 1, basis=(2,), effect=("ratify", 0)),
            ), (True,) * 5, (False, False, False, True, False))

    def test_one_character_for_each_member(self):
        for members in (1, 12):
            charter = charter_of(
                entry_type(basis=((1, 1),)), entry_type(cured=((0, 1),)), members=members, seats=((0,),),
            )
            self.made(
                charter, (0, 1), (entry(1, 0, "-" * members), entry(0, 1, "Y" * members, (0,), ("cure", 0))),
                (True, True), (False, False))

    def test_no_unsafe_cycle(self):
        charter = charter_of(entry_type(basis=((1, 3), (0, 0)), annulled=((0, 2),)), entry_type(cured=((0, 2),)))
        # Not a walk, not closed, not mixed, a slack below 0.
        for numbers in ((), (3, 3), (0, 1), (0,), (0, 3, 0), (2,), (1,), (2, 2), (0, 3), (0, 3, 0, 3, 0, 3, 2)):
            self.same(verify_cycle(charter, numbers), False)
            with self.assertRaises(GazetteError) as caught:
                counterexample_of(charter, numbers)
            self.assertIs(caught.exception.__class__, NotUnsafe)
        self.assertEqual(len(counterexample_of(charter, (0, 3, 2))[0]), 3)


class CounterexampleTest(CounterexampleCase):
    def test_a_safe_charter(self):
        self.same(counterexample(charter_of(PLAIN)), None)
        self.same(counterexample(pair(3, 2)), None)

    def test_the_reported_cycle(self):
        self.same(counterexample(pair(2, 2)), counterexample_of(pair(2, 2), (0, 1)))
        several = charter_of(entry_type(basis=((0, 0),), cured=((0, 1),), annulled=((0, 1),)))
        self.same(counterexample(several), counterexample_of(several, (0, 1)))

    def test_a_long_cycle(self):
        charter = charter_of(
            entry_type(basis=((1, 12),), cured=((0, 1),)),
            *[entry_type(basis=(((number + 1) % 8, 12),)) for number in range(1, 8)],
        )
        record, consistent = counterexample(charter)
        self.assertEqual(len(record), 104)
        self.same([one[1] for one in record], sorted([*range(96), 96, 84, 72, 60, 48, 36, 24, 12]))
        self.same(consistent, ((True,) * 104, (False,) * 104))
        for statuses in consistent:
            self.assertTrue(is_consistent(charter, record, statuses))
        # What has been returned may be passed even beyond the bounds.
        circle, numbers = dependency_cycle(charter, record)
        self.assertEqual((len(circle), len(numbers)), (104, 104))
        self.assertTrue(verify_cycle(charter, numbers))
        self.same(determined(charter, record), (None,) * 104)
        with self.assertRaises(TooManyOpen) as caught:
            assignments(charter, record)
        self.same(caught.exception.count, 104)

    def test_a_cycle_of_1000_edges(self):
        charter = charter_of(entry_type(basis=((0, 12),), annulled=((0, 1),)))
        record, consistent = counterexample_of(charter, (0,) + (1,) * 999)
        self.same((len(record), record[-1][1], consistent), (1000, 12, ()))
        record, consistent = counterexample_of(charter, (0, 0) + (1,) * 998)
        self.same((len(record), record[-1][1], len(consistent)), (1000, 24, 2))
        self.same(record, reference.counterexample(charter, (0, 0) + (1,) * 998))


class RandomCyclesTest(Case):
    def test_all_that_the_document_tells(self):
        numbers = random.Random(220)
        found = {0: 0, 2: 0}
        for charter in ratified_charters(numbers, 150):
            for cycle in self.cycles(numbers, charter):
                record, consistent = counterexample_of(charter, cycle)
                self.same(record, reference.counterexample(charter, cycle))
                self.assertIsNone(check_record(charter, record))
                annulments = [number for number in cycle if edges(charter)[number][2] == "annul"]
                self.assertEqual(len(consistent), 0 if len(annulments) % 2 else 2)
                if len(record) <= 7:
                    self.same(reference.all_consistent(charter, record), consistent)
                for statuses in consistent:
                    self.assertTrue(is_consistent(charter, record, statuses))
                found[len(consistent)] += 1
        self.assertGreater(min(found.values()), 100)

    def cycles(self, numbers, charter):
        reported = analyze(charter)[1]
        if reported is not None:
            yield reported
            for _ in range(10):
                walk, here = [], edges(charter)[reported[0]][0]
                start = here
                for _ in range(7):
                    leading = [number for number, edge in enumerate(edges(charter)) if edge[0] == here]
                    if leading:
                        walk.append(numbers.choice(leading))
                        here = edges(charter)[walk[-1]][1]
                        if here == start and verify_cycle(charter, tuple(walk)):
                            yield tuple(walk)


if __name__ == "__main__":
    unittest.main()
