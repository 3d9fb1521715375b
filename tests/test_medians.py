"""Point 85: the median of three tuples of edits."""

import itertools
import unittest

from gazette.edits import apply_edits, sorted_edits
from gazette.medians import median
from support import Case

A, B, C, D = (0, ("a",), ()), (1, ("b",), ("y",)), (2, (), ("x",)), (0, (), ("x",))


class MedianTest(Case):
    def test_edits_of_two_of_them(self):
        self.same(median((A,), (A,), ()), (A,))
        self.same(median((A,), (), (A,)), (A,))
        self.same(median((), (A,), (A,)), (A,))
        self.same(median((A,), (A,), (A,)), (A,))

    def test_edits_of_only_one_of_them(self):
        self.same(median((A,), (B,), (C,)), ())
        self.same(median((A,), (), ()), ())
        self.same(median((), (A, A), ()), ())
        self.same(median((), (), (A, A)), ())
        self.same(median((), (), ()), ())

    def test_first_the_order_of_the_first_then_that_of_the_second(self):
        self.same(median((B, A, C), (A, B), (C,)), (B, A, C))
        self.same(median((D,), (C, B, A, D), (A, B, C)), (D, C, B, A))
        self.same(median((C,), (B, C, A), (A, C, B)), (C, B, A))
        self.same(median((), (B, A), (A, B)), (B, A))

    def test_as_often_as_in_the_first(self):
        self.same(median((A, B, A), (A,), ()), (A, A))
        self.same(median((A, B, A), (), (B, A)), (A, B, A))
        self.same(median((A,), (A, A, A), (A, A)), (A,))

    def test_as_often_as_in_the_second(self):
        self.same(median((), (A, B, A), (A,)), (A, A))
        self.same(median((), (A,), (A, A)), (A,))
        self.same(median((A, A), (A, B, B), (B,)), (A, A, B, B))

    def test_the_parts_of_an_edit_count(self):
        self.same(median(((0, ("a",), ()),), ((0, ("a",), ("",)),), ((1, ("a",), ()),)), ())
        self.same(median((C,), (D,), ()), ())

    def test_against_counting(self):
        some = [edits for many in range(4) for edits in itertools.product((A, B, C), repeat=many)]
        for first, second, third in itertools.product(some[::2], some[::3], some[::5]):
            found = median(first, second, third)
            for edit in (A, B, C):
                sides = [edit in first, edit in second, edit in third]
                often = 0 if sum(sides) < 2 else first.count(edit) or second.count(edit)
                self.assertEqual(found.count(edit), often)

    def test_two_that_agree_win(self):
        text = ("a", "b")
        for other in ((), (A,), (C, D), (B, A)):
            for edits in ((A,), (D, B), (C,)):
                expected = apply_edits(text, sorted_edits(edits))
                for sides in ((edits, edits, other), (edits, other, edits), (other, edits, edits)):
                    agreed = [edit for edit in median(*sides) if edit in edits]
                    self.same(apply_edits(text, sorted_edits(tuple(agreed))), expected)


if __name__ == "__main__":
    unittest.main()
