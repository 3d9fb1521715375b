"""Points 7, 160, 161, 240 and 241: slack bounds, and when entries are final."""

import itertools
import random
import unittest

import reference
from gazette.bounds import finality, slack_bounds, verify_bounds
from gazette.charters import edges
from gazette.cycles import analyze
from gazette.errors import GazetteError, UnsafeCharter
from gazette.validity import validity
from samples import KINDS, ratified_charters, small_charters, some_record, some_safe_charter
from support import Case, charter_of, entry_type

PLAIN = entry_type()
BOTH = ("unbounded", "unbounded")
CHANGES = charter_of(entry_type(basis=((0, 0),), annulled=((1, 2),)), entry_type(basis=((0, 3),)))
# Type 0 is based on type 1, which type 2 annuls.
CHAIN = charter_of(entry_type(basis=((1, 3),)), entry_type(annulled=((2, 5),)), entry_type(basis=((2, 1),)))


class SlackBoundsTest(Case):
    def test_no_edges(self):
        self.same(slack_bounds(charter_of(PLAIN)), ((0, None),))
        self.same(slack_bounds(charter_of(*[PLAIN] * 8)), ((0, None),) * 8)

    def test_backward_edges_alone(self):
        self.same(slack_bounds(charter_of(entry_type(basis=((0, 3), (1, 0))), PLAIN)), ((0, None), (0, None)))

    def test_each_kind_of_forward_edge(self):
        for name in ("annulled", "cured", "ratified"):
            self.same(slack_bounds(charter_of(entry_type(**{name: ((1, 7),)}), PLAIN)), ((7, 7), (0, None)))

    def test_backward_edges_before_a_forward_one(self):
        self.same(slack_bounds(CHAIN), ((2, 2), (5, 5), (0, None)))

    def test_a_first_item_of_0(self):
        slower = charter_of(entry_type(basis=((1, 6),)), *CHAIN[9][1:])
        self.same(slack_bounds(slower), ((0, -1), (5, 5), (0, None)))
        even = charter_of(entry_type(basis=((1, 5),)), *CHAIN[9][1:])
        self.same(slack_bounds(even), ((0, 0), (5, 5), (0, None)))
        self.same(slack_bounds(CHANGES), ((2, 2), (0, -1)))

    def test_the_greatest_of_several(self):
        charter = charter_of(
            entry_type(basis=((1, 4),), annulled=((1, 2),), cured=((2, 3),)), entry_type(annulled=((2, 8),)),
            entry_type(basis=((1, 1),), cured=((3, 2),)), entry_type(basis=((2, 1),)),
        )
        # The forward edges 1 to 2 and the backward ones 2 to 1 make an unsafe cycle that rises.
        self.same(slack_bounds(charter), (BOTH,) * 4)
        charter = charter_of(
            entry_type(basis=((1, 4),), annulled=((1, 2),), cured=((2, 3),)), entry_type(annulled=((2, 8),)),
            entry_type(cured=((3, 2),)), entry_type(basis=((2, 3),)),
        )
        self.same(slack_bounds(charter), ((12, 12), (10, 10), (2, 2), (0, -1)))

    def test_not_bounded(self):
        for name in ("annulled", "cured"):
            self.same(slack_bounds(charter_of(entry_type(**{name: ((0, 1),)}))), (BOTH,))
        charter = charter_of(
            entry_type(basis=((1, 12),)), entry_type(basis=((2, 12),)), entry_type(cured=((2, 1),), annulled=((3, 1),)),
            entry_type(basis=((3, 0),)),
        )
        self.same(slack_bounds(charter), (BOTH, BOTH, BOTH, (0, None)))

    def test_a_rising_cycle_of_several_types(self):
        charter = charter_of(
            entry_type(annulled=((1, 1),)), entry_type(cured=((2, 1),)), entry_type(annulled=((0, 1),)),
            entry_type(basis=((1, 12),)),
        )
        self.same(slack_bounds(charter), (BOTH,) * 4)

    def test_an_unsafe_charter_whose_slacks_are_bounded(self):
        charter = charter_of(entry_type(basis=((1, 2),)), entry_type(annulled=((0, 2),)))
        self.assertIsNotNone(analyze(charter)[1])
        self.same(slack_bounds(charter), ((0, 0), (2, 2)))

    def test_against_all_walks(self):
        numbers = random.Random(240)
        kinds = {"unbounded": 0, "None": 0, "bounded": 0}
        for charter in small_charters(numbers, 1500, most=4):
            bounds = slack_bounds(charter)
            self.same(bounds, reference.slack_bounds(charter))
            self.same(verify_bounds(charter, bounds), True)
            for _, forward in bounds:
                kinds[str(forward) if forward in (None, "unbounded") else "bounded"] += 1
        self.assertGreater(min(kinds.values()), 200)


class VerifyBoundsTest(Case):
    def verified(self, charter, *bounds):
        self.same(verify_bounds(charter, bounds), True)

    def refused(self, charter, *bounds):
        self.same(verify_bounds(charter, bounds), False)

    def test_just_verified_and_not_by_one(self):
        self.verified(CHANGES, (2, 2), (0, -1))
        self.refused(CHANGES, (1, 2), (0, -1))
        self.refused(CHANGES, (2, 1), (0, -1))
        self.refused(CHANGES, (2, 2), (0, -2))
        self.refused(CHANGES, (2, 2), (-1, -1))
        self.verified(CHANGES, (3, 2), (0, -1))
        self.refused(CHANGES, (4, 2), (0, -1))
        self.verified(CHANGES, (4, 3), (1, 0))
        self.verified(CHANGES, (1000, 1000), (998, 997))
        self.refused(CHANGES, (1000, 1000), (997, 996))

    def test_a_pair_too_few_and_too_many(self):
        self.refused(CHANGES, (2, 2))
        self.refused(CHANGES, (2, 2), (0, -1), (0, None))
        self.refused(CHANGES)
        eight = charter_of(*[PLAIN] * 8)
        self.verified(eight, *[(0, None)] * 8)
        self.refused(eight, *[(0, None)] * 7)
        self.refused(eight, *[(0, None)] * 9)

    def test_first_items_are_at_least_0(self):
        one = charter_of(PLAIN)
        self.verified(one, (0, None))
        self.verified(one, (0, -1000))
        self.verified(one, ("unbounded", None))
        self.refused(one, (-1, None))
        self.refused(one, (-1, "unbounded"))

    def test_none(self):
        backward = charter_of(entry_type(basis=((1, 2),)), PLAIN)
        self.verified(backward, (0, None), (0, None))
        self.verified(backward, (0, -1000), (0, None))
        self.refused(backward, (0, None), (0, -1000))
        self.refused(CHAIN, (2, None), (5, 5), (0, None))
        self.refused(CHAIN, (2, 2), (5, None), (0, None))
        self.verified(CHAIN, (2, 2), (5, 5), (0, None))

    def test_unbounded(self):
        self.verified(CHAIN, BOTH, BOTH, BOTH)
        self.verified(CHAIN, BOTH, (5, 5), (0, None))
        self.verified(CHAIN, (2, 5), (5, 8), ("unbounded", None)[:0] + (0, None))
        self.refused(CHAIN, (2, 2), BOTH, (0, None))
        self.refused(CHAIN, ("unbounded", 2), (5, "unbounded"), (0, None))
        self.refused(CHAIN, (2, 2), (5, 5), ("unbounded", None))
        self.verified(CHAIN, BOTH, BOTH, ("unbounded", None))
        self.refused(CHAIN, BOTH, ("unbounded", 5), ("unbounded", None))

    def test_unbounded_in_the_first_item_only(self):
        self.verified(charter_of(entry_type(basis=((0, 1),))), ("unbounded", None))
        self.verified(CHAIN, ("unbounded", 2), (5, 5), (0, None))

    def test_a_charter_whose_slacks_are_not_bounded(self):
        charter = charter_of(entry_type(cured=((0, 1),)))
        self.verified(charter, BOTH)
        for first, second in itertools.product((0, 1, 1000, "unbounded"), (None, -1, 0, 1000)):
            self.refused(charter, (first, second))
        for first in (0, 1000):
            self.refused(charter, (first, "unbounded"))

    def test_against_infinite_numbers(self):
        numbers = random.Random(5)
        values = {None: float("-inf"), "unbounded": float("inf")}
        verified = 0
        for charter in small_charters(numbers, 2000):
            bounds = list(slack_bounds(charter))
            for _ in range(3):
                at = numbers.randrange(len(bounds))
                change = numbers.choice((-1, 0, 1, 2))
                bounds[at] = tuple(
                    item if item in values else item + change for item in numbers.choice((bounds[at], (0, None), BOTH)))
                plain = [[values.get(item, item) for item in pair] for pair in bounds]
                expected = all(pair[0] >= 0 for pair in plain)
                for source, target, kind, sittings in edges(charter):
                    (first, second), (other, other_second) = plain[source], plain[target]
                    if kind == "basis":
                        expected = expected and first >= other - sittings and second >= other_second - sittings
                    else:
                        expected = expected and first >= other + sittings and second >= other + sittings
                self.same(verify_bounds(charter, tuple(bounds)), expected)
                verified += expected
        self.assertGreater(verified, 300)


class FinalityTest(Case):
    def test_each_kind(self):
        self.same(finality(CHANGES), (2, "immediate"))
        self.same(finality(charter_of(PLAIN)), ("immediate",))
        self.same(finality(charter_of(entry_type(annulled=((0, 1),)), PLAIN)), ("never", "immediate"))
        self.same(finality(CHAIN), (2, 5, "immediate"))

    def test_after_0_sittings(self):
        charter = charter_of(entry_type(basis=((1, 5),)), *CHAIN[9][1:])
        self.same(finality(charter), (0, 5, "immediate"))

    def test_below_0_is_immediate(self):
        charter = charter_of(entry_type(basis=((1, 6),)), *CHAIN[9][1:])
        self.same(finality(charter), ("immediate", 5, "immediate"))

    def test_an_unsafe_charter(self):
        for charter in (
            charter_of(entry_type(basis=((0, 0),), cured=((0, 1),))),
            charter_of(entry_type(basis=((1, 2),)), entry_type(annulled=((0, 2),))),
        ):
            with self.assertRaises(GazetteError) as caught:
                finality(charter)
            self.assertIs(caught.exception.__class__, UnsafeCharter)
            self.same(caught.exception.cycle, (0, 1))

    def test_validity_that_is_final_does_not_change(self):
        numbers = random.Random(241)
        changed = 0
        for charter in self.charters(numbers):
            record = some_record(numbers, charter, 16)
            ends = finality(charter)
            whole = validity(charter, record)
            for length in range(1, 16):
                before = validity(charter, record[:length])
                for number, status in enumerate(before):
                    if status != whole[number]:
                        changed += 1
                        end = ends[record[number][0]]
                        self.assertNotEqual(end, "immediate")
                        if end != "never":
                            # The first appended entry is not more than so many sittings later.
                            self.assertLessEqual(record[length][1], record[number][1] + end)
        self.assertGreater(changed, 100)

    def charters(self, numbers):
        for _ in range(150):
            yield some_safe_charter(numbers, numbers.randint(1, 5), numbers.choice((KINDS, ("none",))))
        for charter in ratified_charters(numbers, 300):
            if analyze(charter)[1] is None:
                yield charter


if __name__ == "__main__":
    unittest.main()
