"""Points 61, 62 and 68: amendments."""

import itertools
import unittest

from gazette.amendments import adopted_in, amended, resolve, voting_order
from support import Case

TEXT = ("a", "b", "c")


class VotingOrderTest(Case):
    def test_lower_positions_first(self):
        self.same(voting_order(((2, (), ()), (0, (), ()), (1, ("b", "c"), ()))), (1, 2, 0))
        self.same(voting_order(()), ())

    def test_more_lines_removed_first(self):
        edits = ((1, (), ()), (1, ("b",), ()), (1, ("b", "c"), ()), (0, (), ()))
        self.same(voting_order(edits), (3, 2, 1, 0))

    def test_lower_numbers_first(self):
        edits = ((1, ("b",), ("z",)), (1, ("b",), ("a",)), (0, (), ("z",)), (0, (), ("a",)), (0, (), ("z",)))
        self.same(voting_order(edits), (2, 3, 4, 0, 1))


class ResolveTest(Case):
    def test_no_amendments(self):
        self.same(resolve((), ()), ((), (), ()))

    def test_each_outcome(self):
        edits = ((0, ("a",), ("x",)), (0, ("a", "b"), ()), (2, ("c",), ()))
        self.same(resolve(edits, (True, True, False)), ((1, 0, 2), (1,), ("superseded", "adopted", "rejected")))
        self.same(resolve(edits, (True, False, True)), ((1, 0, 2), (0, 2), ("adopted", "rejected", "adopted")))
        self.same(resolve(edits, (False, True, True)), ((1, 0, 2), (1, 2), ("superseded", "adopted", "adopted")))

    def test_the_flag_of_a_superseded_amendment_is_ignored(self):
        edits = ((0, ("a",), ("x",)), (0, ("a",), ("y",)))
        for flag in (True, False):
            self.same(resolve(edits, (True, flag)), ((0, 1), (0,), ("adopted", "superseded")))

    def test_rejected_amendments_do_not_supersede(self):
        edits = ((0, ("a",), ("x",)), (0, ("a",), ("y",)))
        self.same(resolve(edits, (False, True)), ((0, 1), (1,), ("rejected", "adopted")))

    def test_superseded_amendments_do_not_supersede(self):
        edits = ((0, ("a", "b"), ()), (1, ("b", "c"), ()), (2, ("c",), ()))
        expected = ((0, 1, 2), (0, 2), ("adopted", "superseded", "adopted"))
        self.same(resolve(edits, (True, True, True)), expected)

    def test_adopted_in_voting_order(self):
        edits = ((3, (), ("z",)), (1, ("b",), ()), (0, (), ("y",)))
        self.same(resolve(edits, (True, True, True)), ((2, 1, 0), (2, 1, 0), ("adopted",) * 3))

    def test_insertions_are_not_superseded_at_one_position(self):
        edits = ((1, (), ("x",)), (1, (), ("x",)), (1, ("b",), ()))
        self.same(resolve(edits, (True, True, True)), ((2, 0, 1), (2, 0, 1), ("adopted",) * 3))

    def test_an_insertion_inside_a_removal_is_superseded(self):
        edits = ((0, ("a", "b"), ()), (1, (), ("x",)), (2, (), ("y",)))
        self.same(resolve(edits, (True, True, True))[2], ("adopted", "superseded", "adopted"))


class AdoptedInTest(Case):
    EDITS = ((0, ("a",), ("x",)), (0, ("a", "b"), ()), (1, ("b",), ("y",)), (3, (), ("z",)))

    def test_the_given_order_decides(self):
        flags = (True, True, True, True)
        self.same(adopted_in(self.EDITS, flags, (0, 1, 2, 3)), (0, 2, 3))
        self.same(adopted_in(self.EDITS, flags, (3, 2, 1, 0)), (3, 2, 0))
        self.same(adopted_in(self.EDITS, flags, (1, 3, 0, 2)), (1, 3))

    def test_flags(self):
        self.same(adopted_in(self.EDITS, (True, False, True, False), (1, 2, 3, 0)), (2, 0))
        self.same(adopted_in(self.EDITS, (False,) * 4, (0, 1, 2, 3)), ())
        self.same(adopted_in((), (), ()), ())

    def test_in_voting_order_as_resolved(self):
        for flags in itertools.product((True, False), repeat=4):
            order, adopted, outcomes = resolve(self.EDITS, flags)
            self.same(adopted_in(self.EDITS, flags, order), adopted)
            self.same(sorted(adopted), [n for n, outcome in enumerate(outcomes) if outcome == "adopted"])


class AmendedTest(Case):
    def test_nothing_is_adopted(self):
        self.same(amended(TEXT, ((0, ("a",), ()),), (False,)), TEXT)
        self.same(amended(TEXT, (), ()), TEXT)

    def test_adopted_amendments(self):
        edits = ((3, (), ("z",)), (1, ("b",), ("B",)), (0, ("a", "b"), ()))
        self.same(amended(TEXT, edits, (True, True, False)), ("a", "B", "c", "z"))
        self.same(amended(TEXT, edits, (True, True, True)), ("c", "z"))

    def test_an_insertion_behind_a_replacement_puts_its_lines_before(self):
        edits = ((1, ("b",), ("B",)), (1, (), ("x",)))
        self.same(resolve(edits, (True, True))[1], (0, 1))
        self.same(amended(TEXT, edits, (True, True)), ("a", "x", "B", "c"))
        self.same(amended(TEXT, edits[::-1], (True, True)), ("a", "x", "B", "c"))

    def test_insertions_keep_their_order(self):
        edits = ((1, (), ("x",)), (0, (), ("y",)), (1, (), ("w",)))
        self.same(amended(TEXT, edits, (True, True, True)), ("y", "a", "x", "w", "b", "c"))

    def test_adopted_amendments_that_do_not_apply(self):
        edits = ((0, ("q",), ()), (1, ("b",), ()))
        self.same(amended(TEXT, edits, (True, True)), None)
        self.same(amended(TEXT, edits, (False, True)), ("a", "c"))
        self.same(amended(TEXT, ((4, (), ("x",)),), (True,)), None)

    def test_a_superseded_amendment_need_not_apply(self):
        edits = ((0, ("a", "b"), ()), (0, ("q",), ()))
        self.same(amended(TEXT, edits, (True, True)), ("c",))


if __name__ == "__main__":
    unittest.main()
