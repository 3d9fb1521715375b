"""Points 7, 161, 220, 242 and 243: reversal walks and latest reversals."""

import random
import unittest

import reference
from gazette.bounds import finality
from gazette.charters import edges
from gazette.cycles import analyze
from gazette.errors import GazetteError, UnsafeCharter
from gazette.records import check_record
from gazette.reversals import latest_reversal, reversal_walk
from gazette.validity import validity
from samples import ratified_charters, small_charters
from support import Case, charter_of, entry, entry_type

PLAIN = entry_type()
NOBODY = "---"
# Type 0 is based on type 1, which type 2 annuls. Edges: 0 to 1 (0), 1 to 2 (1).
CHAIN = charter_of(entry_type(basis=((1, 3),)), entry_type(annulled=((2, 5),)), PLAIN)
CURING = charter_of(entry_type(cured=((0, 4),)))


class ReversalCase(Case):
    def unsafe(self, question, *arguments, **options):
        with self.assertRaises(GazetteError) as caught:
            question(*arguments, **options)
        self.assertIs(caught.exception.__class__, UnsafeCharter)
        self.same(caught.exception.cycle, (0, 1))


class WalkTest(ReversalCase):
    def test_a_type_that_is_final_immediately(self):
        self.same(reversal_walk(CHAIN, 2), None)
        self.same(reversal_walk(CHAIN, 2, sitting=60), None)
        self.same(reversal_walk(charter_of(entry_type(basis=((1, 6),)), *CHAIN[9][1:]), 0), None)

    def test_a_type_that_is_final_after_some_sittings(self):
        self.same(finality(CHAIN), (2, 5, "immediate"))
        self.same(reversal_walk(CHAIN, 0), (0, 1))
        self.same(reversal_walk(CHAIN, 1), (1,))

    def test_a_given_sitting_has_no_influence_there(self):
        for sitting in (0, 1, 2, 3, 60):
            self.same(reversal_walk(CHAIN, 0, sitting=sitting), (0, 1))

    def test_after_0_sittings(self):
        charter = charter_of(entry_type(basis=((1, 5),)), *CHAIN[9][1:])
        self.same(finality(charter)[0], 0)
        self.same(reversal_walk(charter, 0), (0, 1))

    def test_a_given_sitting_for_a_type_that_is_never_final(self):
        for sitting, many in ((0, 1), (3, 1), (4, 1), (5, 2), (8, 2), (9, 3), (60, 15)):
            self.same(reversal_walk(CURING, 0, sitting=sitting), (0,) * many)
        self.same(reversal_walk(CURING, 0), (0,))

    def test_the_given_sitting_is_0_if_none_is_given(self):
        charter = charter_of(entry_type(basis=((1, 4),)), entry_type(cured=((1, 4),)))
        self.same(reversal_walk(charter, 0), (0, 1))
        self.same(reversal_walk(charter, 0, sitting=1), (0, 1, 1))
        self.same(latest_reversal(charter, 0), latest_reversal(charter, 0, sitting=0))
        self.assertNotEqual(latest_reversal(charter, 0), latest_reversal(charter, 0, sitting=1))

    def test_a_type_that_reaches_one_that_is_never_final(self):
        charter = charter_of(entry_type(basis=((1, 7),), annulled=((2, 2),)), entry_type(cured=((1, 4),)), PLAIN)
        # Edges: 0 to 1 (0), 0 to 2 (1), 1 to 1 (2).
        self.same(finality(charter), ("never", "never", "immediate"))
        self.same(reversal_walk(charter, 0), (1,))
        self.same(reversal_walk(charter, 0, sitting=2), (1,))
        self.same(reversal_walk(charter, 0, sitting=3), (0, 2, 2, 2))
        self.same(reversal_walk(charter, 0, sitting=5), (0, 2, 2, 2))
        self.same(reversal_walk(charter, 0, sitting=6), (0, 2, 2, 2, 2))

    def test_several_with_the_fewest_edges(self):
        charter = charter_of(entry_type(annulled=((1, 3),), cured=((1, 5), (2, 5), (0, 1))), PLAIN, PLAIN)
        self.same(reversal_walk(charter, 0, sitting=5), (1,))
        self.same(reversal_walk(charter, 0, sitting=3), (0,))
        self.same(reversal_walk(charter, 0, sitting=1), (0,))
        self.same(reversal_walk(charter, 0, sitting=6), (3, 1))

    def test_a_walk_of_the_greatest_slack_with_the_fewest_edges(self):
        # Both types 1 and 2 lead on with the same slack in all; the way past type 3 has an edge more.
        charter = charter_of(
            entry_type(annulled=((3, 1), (2, 1), (1, 1))), entry_type(cured=((4, 4),)), entry_type(cured=((4, 4),)),
            entry_type(annulled=((1, 1),), basis=((2, 0),)), PLAIN,
        )
        self.same(finality(charter)[0], 6)
        self.same(reversal_walk(charter, 0), (0, 6, 3))
        charter = charter_of(*charter[9][:3], entry_type(basis=((2, 0),)), PLAIN)
        self.same(finality(charter)[0], 5)
        self.same(reversal_walk(charter, 0), (1, 4))

    def test_an_unsafe_charter(self):
        charter = charter_of(entry_type(basis=((0, 0),), cured=((0, 1),)), PLAIN)
        for number in range(2):
            self.unsafe(reversal_walk, charter, number)
            self.unsafe(reversal_walk, charter, number, sitting=5)
            self.unsafe(latest_reversal, charter, number)
            self.unsafe(latest_reversal, charter, number, sitting=5)

    def test_against_all_walks(self):
        numbers = random.Random(242)
        found = {True: 0, False: 0}
        for charter in small_charters(numbers, 600):
            if analyze(charter)[1] is None:
                for number, end in enumerate(finality(charter)):
                    if end != "immediate":
                        sitting = numbers.randint(0, 9)
                        least = sitting if end == "never" else end
                        walk = reversal_walk(charter, number, sitting=sitting)
                        self.same(walk, reference.first_forward_walk(charter, number, least))
                        self.assertNotEqual(edges(charter)[walk[-1]][2], "basis")
                        found[end == "never"] += 1
        self.assertGreater(min(found.values()), 50)


class LatestReversalTest(ReversalCase):
    def test_a_type_that_is_final_immediately(self):
        self.same(latest_reversal(CHAIN, 2), None)
        self.same(latest_reversal(CHAIN, 2, sitting=60), None)

    def test_an_annulment(self):
        self.same(latest_reversal(CHAIN, 1), ((entry(1),), 0, (entry(2, 5, effect=("annul", 0)),)))

    def test_a_walk_that_goes_backward_first(self):
        self.same(latest_reversal(CHAIN, 0), (
            (entry(1), entry(0, 3, basis=(0,))), 1, (entry(2, 5, effect=("annul", 0)),)))

    def test_a_cure(self):
        self.same(latest_reversal(CURING, 0, sitting=5), (
            (entry(0, 0, NOBODY), entry(0, 4, NOBODY, effect=("cure", 0))), 0, (entry(0, 8, effect=("cure", 1)),)))

    def test_equal_sittings(self):
        # Without a delay the rank decides: walk entry 1 stands before walk entry 0.
        charter = charter_of(entry_type(basis=((1, 0),)), *CHAIN[9][1:])
        self.same(latest_reversal(charter, 0), (
            (entry(1), entry(0, basis=(0,))), 1, (entry(2, 5, effect=("annul", 0)),)))

    def test_the_number_of_walk_entry_0(self):
        charter = charter_of(
            entry_type(basis=((1, 2),)), entry_type(annulled=((2, 1),)), entry_type(basis=((3, 2),)),
            entry_type(annulled=((4, 9),)), PLAIN,
        )
        # The sittings are 3, 1, 2, 0 and 9.
        self.same(latest_reversal(charter, 0), (
            (
                entry(3), entry(1, 1), entry(2, 2, basis=(0,), effect=("annul", 1)), entry(0, 3, basis=(1,)),
            ), 3, (entry(4, 9, effect=("annul", 0)),)))

    def test_the_first_entry_has_no_effect(self):
        # The walk is closed, but the last entry of the walk has no entry before walk entry 0.
        record, number, appended = latest_reversal(CURING, 0, sitting=60)
        self.assertEqual((len(record), number, len(appended)), (15, 0, 1))
        self.same([one[4] for one in record], [None] + [("cure", at) for at in range(14)])

    def test_a_type_that_has_to_be_ratified_at_the_beginning(self):
        charter = charter_of(
            entry_type(annulled=((1, 4),), ratified=((2, 3), (1, 3))), PLAIN, entry_type(basis=((1, 0),)),
        )
        self.same(latest_reversal(charter, 0), (
            (entry(), entry(2, 0, basis=(None,), effect=("ratify", 0))), 0, (entry(1, 4, effect=("annul", 0)),)))

    def test_in_the_middle(self):
        charter = charter_of(
            entry_type(annulled=((1, 4),)), entry_type(cured=((2, 2),), ratified=((3, 1),)), PLAIN, PLAIN,
        )
        self.same(latest_reversal(charter, 0), (
            (entry(), entry(1, 4, NOBODY, effect=("annul", 0)), entry(3, 4, effect=("ratify", 1))), 0,
            (entry(2, 6, effect=("cure", 1)),)))

    def test_at_the_end(self):
        charter = charter_of(
            entry_type(annulled=((1, 4),)), entry_type(ratified=((3, 1), (2, 1)), basis=((0, 5), (3, 0))), PLAIN,
            entry_type(basis=((0, 6),)),
        )
        self.same(finality(charter)[0], 5)
        record, number, appended = latest_reversal(charter, 0)
        self.same((record, number), ((entry(), entry(1, 4, basis=(None, None), effect=("annul", 0))), 0))
        self.same(appended, (entry(3, 5, basis=(None,), effect=("ratify", 1)),))
        charter = charter_of(entry_type(annulled=((1, 4),)), entry_type(basis=((2, 5),), ratified=((2, 12),)), PLAIN)
        self.same(latest_reversal(charter, 1), ((entry(1, basis=(None,)),), 0, (entry(2, 12, effect=("ratify", 0)),)))

    def test_the_last_entry_is_ratified_itself(self):
        # If a type is final after some sittings, its walk goes on behind such a type, so it is never final here.
        never = charter_of(entry_type(cured=((0, 4),), ratified=((1, 2),)), entry_type(basis=((1, 0),)))
        self.same(latest_reversal(never, 0, sitting=4), (
            (entry(0, 0, NOBODY), entry(1, 0, basis=(None,), effect=("ratify", 0))), 0,
            (entry(0, 4, effect=("cure", 0)), entry(1, 4, basis=(None,), effect=("ratify", 2)))))

    def test_against_the_words_of_the_document(self):
        numbers = random.Random(243)
        turned, ratified_last = 0, 0
        for charter in ratified_charters(numbers, 1200):
            if analyze(charter)[1] is None:
                for number, end in enumerate(finality(charter)):
                    if end != "immediate":
                        sitting = numbers.randint(0, 60)
                        found = latest_reversal(charter, number, sitting=sitting)
                        walk = reversal_walk(charter, number, sitting=sitting)
                        self.same(found, reference.reversal(charter, walk))
                        self.check(charter, *found)
                        turned += found[1] > 0
                        ratified_last += len(found[2]) == 2
        self.assertGreater(turned, 20)
        self.assertGreater(ratified_last, 10)

    def check(self, charter, record, number, appended):
        """Appending turns the validity around."""
        self.assertIsNone(check_record(charter, record + appended))
        before, after = validity(charter, record), validity(charter, record + appended)
        self.assertNotEqual(before[number], after[number])


if __name__ == "__main__":
    unittest.main()
