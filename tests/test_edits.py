"""Points 60 to 63: edits."""

import itertools
import unittest

from gazette.edits import (
    applies, apply_edits, conflict, first_conflict, in_order, inverse_edits, line_origins, perform, sorted_edits,
)
from gazette.errors import NotInOrder
from support import Case

TEXT = ("a", "b", "c")
SMALL = tuple(
    (position, TEXT[position:position + many], insert)
    for position in range(4) for many in range(4 - position) for insert in ((), ("x",))
)


def several(longest):
    for many in range(longest + 1):
        yield from itertools.product(SMALL, repeat=many)


class AppliesTest(Case):
    def test_lines_that_are_there(self):
        self.same(applies(TEXT, (0, ("a",), ())), True)
        self.same(applies(TEXT, (1, ("b", "c"), ("x",))), True)
        self.same(applies(TEXT, (0, ("a", "b", "c"), ())), True)

    def test_lines_that_are_not_there(self):
        self.same(applies(TEXT, (0, ("b",), ())), False)
        self.same(applies(TEXT, (0, ("b", "a"), ())), False)
        self.same(applies(TEXT, (1, ("b", "x"), ())), False)
        self.same(applies(TEXT, (1, ("",), ())), False)

    def test_at_the_end_and_beyond_it(self):
        self.same(applies(TEXT, (2, ("c",), ())), True)
        self.same(applies(TEXT, (2, ("c", "d"), ())), False)
        self.same(applies(TEXT, (3, ("d",), ())), False)
        self.same(applies(TEXT, (30, ("a",), ())), False)

    def test_insertions(self):
        self.same(applies(TEXT, (0, (), ("x",))), True)
        self.same(applies(TEXT, (3, (), ("x",))), True)
        self.same(applies(TEXT, (4, (), ("x",))), False)
        self.same(applies(TEXT, (4, (), ())), False)
        self.same(applies((), (0, (), ("x",))), True)
        self.same(applies((), (1, (), ())), False)


class InOrderTest(Case):
    def test_in_order(self):
        self.same(in_order(()), True)
        self.same(in_order(((30, ("q",), ()),)), True)
        self.same(in_order(((0, ("a",), ()), (1, ("b", "c"), ()), (3, (), ("x",)))), True)
        self.same(in_order(((0, ("a",), ()), (5, (), ()))), True)

    def test_not_in_order(self):
        self.same(in_order(((1, (), ("x",)), (0, (), ("y",)))), False)
        self.same(in_order(((0, ("a", "b"), ()), (1, ("b",), ()))), False)
        self.same(in_order(((0, ("a",), ()), (0, (), ("x",)))), False)
        self.same(in_order(((0, (), ()), (2, (), ()), (1, (), ()))), False)

    def test_at_one_position(self):
        self.same(in_order(((0, (), ("x",)), (0, (), ("y",)), (0, ("a",), ()))), True)
        self.same(in_order(((1, (), ("x",)), (1, (), ("x",)))), True)
        self.same(in_order(((0, ("a",), ()), (0, ("a",), ()))), False)
        self.same(in_order(((0, ("a",), ()), (1, (), ("x",)))), True)


class ApplyEditsTest(Case):
    def check(self, edits, result, origins, lines=TEXT):
        self.same(apply_edits(lines, edits), result)
        self.same(line_origins(lines, edits), origins)

    def test_no_edits(self):
        self.check((), TEXT, (("kept", 0), ("kept", 1), ("kept", 2)))
        self.check((), (), (), lines=())

    def test_positions_refer_to_the_original_text(self):
        edits = ((0, ("a",), ("x", "y")), (2, ("c",), ("z",)))
        origins = (("inserted", 0, 0), ("inserted", 0, 1), ("kept", 1), ("inserted", 1, 0))
        self.check(edits, ("x", "y", "b", "z"), origins)

    def test_several_insertions_at_one_position(self):
        edits = ((1, (), ("x",)), (1, (), ("y", "z")), (1, (), ("x",)), (1, ("b",), ("B",)))
        origins = (
            ("kept", 0), ("inserted", 0, 0), ("inserted", 1, 0), ("inserted", 1, 1), ("inserted", 2, 0),
            ("inserted", 3, 0), ("kept", 2),
        )
        self.check(edits, ("a", "x", "y", "z", "x", "B", "c"), origins)

    def test_at_the_end(self):
        origins = (("kept", 0), ("kept", 1), ("kept", 2), ("inserted", 0, 0))
        self.check(((3, (), ("x",)),), ("a", "b", "c", "x"), origins)
        self.check(((2, ("c",), ()), (3, (), ("x",))), ("a", "b", "x"), origins[:2] + (("inserted", 1, 0),))
        self.check(((0, (), ("x",)),), ("x",), (("inserted", 0, 0),), lines=())

    def test_all_lines_removed(self):
        self.check(((0, TEXT, ()),), (), ())

    def test_edits_that_do_nothing(self):
        self.check(((1, (), ()), (1, ("b",), ("b",))), TEXT, (("kept", 0), ("inserted", 1, 0), ("kept", 2)))

    def test_an_edit_that_does_not_apply(self):
        self.check(((0, ("a",), ()), (2, ("x",), ())), None, None)
        self.check(((0, ("x",), ()), (2, ("c",), ())), None, None)
        self.check(((4, (), ("x",)),), None, None)

    def test_not_in_order(self):
        self.check(((1, (), ("x",)), (0, (), ("y",))), None, None)
        self.check(((0, ("a",), ()), (0, (), ("y",))), None, None)
        self.check(((0, ("a",), ()), (0, ("a",), ())), None, None)

    def test_in_order_without_a_text(self):
        self.same(in_order(((20, ("x",), ()), (25, ("y",), ()))), True)
        self.check(((20, ("x",), ()), (25, ("y",), ())), None, None)

    def test_every_pair_of_edits(self):
        for edits in several(2):
            result, origins = apply_edits(TEXT, edits), line_origins(TEXT, edits)
            self.assertEqual(result is not None, in_order(edits))
            if result is None:
                self.same(origins, None)
                continue
            expected = list(TEXT)
            for position, remove, insert in reversed(edits):
                expected[position:position + len(remove)] = insert
            self.same(result, tuple(expected))
            told = [TEXT[o[1]] if o[0] == "kept" else edits[o[1]][2][o[2]] for o in origins]
            self.same(tuple(told), result)


class ConflictTest(Case):
    def both(self, first, second, expected):
        self.same(conflict(first, second), expected)
        self.same(conflict(second, first), expected)

    def test_removals(self):
        self.both((0, ("a", "b"), ()), (1, ("b", "c"), ()), True)
        self.both((0, ("a", "b", "c"), ()), (1, ("b",), ()), True)
        self.both((0, ("a",), ()), (1, ("b",), ()), False)
        self.both((0, ("a",), ()), (2, ("c",), ()), False)

    def test_equal_edits(self):
        self.both((0, ("a",), ("x",)), (0, ("a",), ("x",)), True)
        self.both((1, (), ("x",)), (1, (), ("x",)), False)

    def test_insertions_never_conflict(self):
        self.both((1, (), ("x",)), (1, (), ("y",)), False)
        self.both((1, (), ("x",)), (2, (), ("y",)), False)

    def test_an_insertion_inside_a_removal_and_at_its_ends(self):
        removal = (1, ("b", "c", "d"), ())
        for position, expected in ((0, False), (1, False), (2, True), (3, True), (4, False), (5, False)):
            self.both((position, (), ("x",)), removal, expected)
        self.both((1, (), ("x",)), (1, ("b",), ()), False)
        self.both((2, (), ("x",)), (1, ("b",), ()), False)

    def test_the_lines_do_not_matter(self):
        self.both((0, ("a", "q"), ()), (1, ("b",), ()), True)

    def test_first_conflict(self):
        edits = ((0, ("a",), ()), (1, ("b",), ()), (1, ("b", "c"), ()), (0, ("a", "b"), ()))
        self.same(first_conflict(edits), (0, 3))
        self.same(first_conflict(edits[1:]), (0, 1))
        self.same(first_conflict(edits[:2] + ((2, (), ()), (2, ("c", "d"), ()), (3, (), ()))), (3, 4))
        self.same(first_conflict(edits[:2]), None)
        self.same(first_conflict(edits[:1]), None)
        self.same(first_conflict(()), None)
        self.same(first_conflict(((0, (), ("x",)),) * 3), None)


class SortedEditsTest(Case):
    def test_by_position_then_by_end(self):
        edits = ((2, (), ()), (0, ("a", "b"), ()), (0, ("a",), ()), (0, (), ("z",)), (1, ("b",), ()))
        expected = ((0, (), ("z",)), (0, ("a",), ()), (0, ("a", "b"), ()), (1, ("b",), ()), (2, (), ()))
        self.same(sorted_edits(edits), expected)
        self.same(sorted_edits(()), ())

    def test_equal_ones_keep_their_order(self):
        edits = ((1, (), ("z",)), (1, ("b",), ("q",)), (1, (), ("a",)), (1, ("a",), ("p",)), (1, (), ("z",)))
        expected = ((1, (), ("z",)), (1, (), ("a",)), (1, (), ("z",)), (1, ("b",), ("q",)), (1, ("a",), ("p",)))
        self.same(sorted_edits(edits), expected)


class InverseEditsTest(Case):
    def test_positions_in_the_result(self):
        edits = ((0, ("a", "b"), ("x",)), (2, (), ("y", "z")), (2, (), ()), (3, ("d",), ("e",)))
        expected = ((0, ("x",), ("a", "b")), (1, ("y", "z"), ()), (3, (), ()), (4, ("e",), ("d",)))
        self.same(inverse_edits(edits), expected)
        self.same(inverse_edits(()), ())

    def test_edits_that_apply_to_no_text(self):
        self.same(inverse_edits(((20, ("x",), ()), (25, ("y",), ()))), ((20, (), ("x",)), (24, (), ("y",))))

    def test_not_in_order(self):
        for edits in (
            ((1, (), ("x",)), (0, (), ("y",))),
            ((0, ("a",), ()), (0, ("a",), ())),
            ((0, (), ()), (0, ("a", "b"), ()), (1, (), ("x",))),
        ):
            with self.assertRaises(NotInOrder):
                inverse_edits(edits)

    def test_leads_back(self):
        for edits in several(2):
            if in_order(edits):
                self.same(apply_edits(apply_edits(TEXT, edits), inverse_edits(edits)), TEXT)


class PerformTest(Case):
    def test_no_edits(self):
        self.same(perform(TEXT, (), ()), TEXT)

    def test_any_order_gives_the_result(self):
        for edits in several(2):
            result = apply_edits(TEXT, edits)
            for order in itertools.permutations(range(len(edits))):
                if result is not None:
                    self.same(perform(TEXT, edits, order), result)

    def test_three_edits_in_any_order(self):
        edits = ((0, ("a",), ()), (1, (), ("x", "y")), (1, ("b", "c"), ("z",)))
        for order in itertools.permutations(range(3)):
            self.same(perform(TEXT, edits, order), ("x", "y", "z"))

    def test_edits_that_are_not_in_order(self):
        edits = ((2, ("c",), ("z",)), (0, ("a",), ()))
        self.same(perform(TEXT, edits, (1, 0)), None)
        self.same(perform(TEXT, edits, (0, 1)), ("b", "z"))
        edits = ((0, (), ("x",)), (0, ("a",), ()), (0, (), ("y",)))
        self.same(perform(TEXT, edits, (1, 2, 0)), None)
        self.same(perform(TEXT, edits, (2, 0, 1)), None)
        self.same(perform(TEXT, edits, (0, 1, 2)), ("y", "x", "b", "c"))

    def test_only_edits_before_it_in_the_tuple_move_an_edit(self):
        edits = ((1, ("b",), ()), (1, (), ("x",)))
        self.same(perform(TEXT, edits, (1, 0)), None)
        edits = ((0, (), ("x", "y")), (2, ("c",), ()))
        self.same(perform(TEXT, edits, (0, 1)), ("x", "y", "a", "b"))
        self.same(perform(TEXT, edits, (1, 0)), ("x", "y", "a", "b"))

    def test_a_position_below_zero(self):
        edits = ((0, ("a", "b"), ()), (1, (), ("x",)))
        self.same(perform(TEXT, edits, (0, 1)), None)
        self.same(perform(TEXT, edits, (1, 0)), None)
        edits = ((0, ("a", "b"), ()), (1, ("c",), ()))
        self.same(perform(("a", "b", "c"), edits, (0, 1)), None)
        edits = ((0, ("a",), ()), (0, (), ("x",)))
        self.same(perform(("a", "b"), edits, (0, 1)), None)
        self.same(perform(("a", "b"), edits, (1, 0)), None)

    def test_an_edit_that_does_not_apply(self):
        self.same(perform(TEXT, ((1, ("x",), ()),), (0,)), None)
        self.same(perform(TEXT, ((4, (), ("x",)),), (0,)), None)
        self.same(perform(TEXT, ((0, (), ("x",)), (3, ("d",), ())), (0, 1)), None)
        self.same(perform(TEXT, ((0, ("x",), ()), (1, ("b",), ())), (1, 0)), None)


if __name__ == "__main__":
    unittest.main()
