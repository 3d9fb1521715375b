"""Points 61, 62 and 80 to 82: compromises and what certifies their size."""

import itertools
import unittest

from gazette.compromises import is_clique_cover, is_compatible, is_compromise, largest, scheduling_order
from gazette.edits import conflict
from gazette.errors import Conflicting, GazetteError
from support import Case, all_compromises, compatible_pairs, small_edits

A, AB, ABC = (0, ("a",), ()), (0, ("a", "b"), ()), (0, ("a", "b", "c"), ())
B, BC, C = (1, ("b",), ()), (1, ("b", "c"), ()), (2, ("c",), ())
X, Y = (1, (), ("x",)), (1, (), ("y",))


class CompatibleTest(Case):
    def test_compatible(self):
        self.same(is_compatible(()), True)
        self.same(is_compatible((A,)), True)
        self.same(is_compatible((C, A, B)), True)
        self.same(is_compatible((X, Y, A, B)), True)

    def test_conflicts(self):
        self.same(is_compatible((A, AB)), False)
        self.same(is_compatible((C, X, BC)), False)
        self.same(is_compatible((AB, X)), False)

    def test_equal_edits_at_different_indices(self):
        self.same(is_compatible((A, A)), False)
        self.same(is_compatible((X, A, X)), False)
        self.same(is_compatible((Y, X, A, Y)), False)
        self.same(is_compatible(((3, (), ()), (3, (), ()))), False)
        self.same(is_compatible((X, (2, (), ("x",)))), True)

    def test_edits_need_not_apply_to_one_text(self):
        self.same(is_compatible(((0, ("a",), ()), (1, ("a",), ()), (30, ("z",), ()))), True)


class CompromiseTest(Case):
    def test_all_that_both_have(self):
        self.same(is_compromise((A, B), (B, C), (B,)), True)
        self.same(is_compromise((A, B), (B, C), (A, C)), False)
        self.same(is_compromise((A, B), (B, C), ()), False)
        self.same(is_compromise((A, B), (C,), ()), True)
        self.same(is_compromise((), (), ()), True)

    def test_only_what_one_of_them_has(self):
        self.same(is_compromise((A,), (B,), (A, C)), False)
        self.same(is_compromise((A,), (B,), (A,)), True)
        self.same(is_compromise((A,), (B,), (B,)), True)
        self.same(is_compromise((), (), (A,)), False)
        self.same(is_compromise((X,), (), (Y,)), False)

    def test_compatible(self):
        self.same(is_compromise((AB,), (BC,), (AB,)), True)
        self.same(is_compromise((AB,), (BC,), (AB, BC)), False)
        self.same(is_compromise((X,), (X,), (X, X)), False)
        self.same(is_compromise((X,), (AB,), (X, AB)), False)

    def test_the_order_does_not_matter(self):
        for edits in itertools.permutations((A, B, C, X)):
            self.same(is_compromise((A, X), (C, B), edits), True)
            self.same(is_compromise((A, X), (C, B, BC), edits[:3] + (BC,)), False)

    def test_sides_that_are_not_compatible(self):
        self.same(is_compromise((A, A), (B,), (A,)), True)
        self.same(is_compromise((X, X), (X,), (X,)), True)
        self.same(is_compromise((AB, BC), (AB,), (AB,)), True)
        self.same(is_compromise((AB, BC), (AB,), (BC,)), False)
        self.same(is_compromise((AB, BC), (BC, AB), (AB,)), False)
        self.same(is_compromise((AB, BC), (BC, AB), (AB, BC)), False)

    def test_an_edit_in_both_and_twice_in_one(self):
        self.same(is_compromise((A, B, A), (A,), (A, B)), True)
        self.same(is_compromise((A, B, A), (A,), (B, A, A)), False)
        self.same(is_compromise((A, B, A), (A,), (B,)), False)


class SchedulingTest(Case):
    def test_by_end_then_by_position(self):
        self.same(scheduling_order((C, ABC, B), (BC, A)), (A, B, ABC, BC, C))
        self.same(scheduling_order((C, B, A), ()), (A, B, C))
        self.same(scheduling_order((), (C, A)), (A, C))
        self.same(scheduling_order((), ()), ())

    def test_an_insertion_comes_behind_what_ends_there(self):
        self.same(scheduling_order((X, A), (B, AB)), (A, X, AB, B))

    def test_equal_ends_and_positions_keep_their_order(self):
        other = (0, ("z",), ("q",))
        self.same(scheduling_order((A,), (other,)), (A, other))
        self.same(scheduling_order((other,), (A,)), (other, A))
        self.same(scheduling_order((Y, X), ((1, (), ()),)), (Y, X, (1, (), ())))
        self.same(scheduling_order((B, Y), (X, B, A)), (A, Y, X, B))

    def test_each_edit_once_at_its_first_occurrence(self):
        other = (0, ("z",), ("q",))
        self.same(scheduling_order((A, other, A), (other,)), (A, other))
        self.same(scheduling_order((other,), (A, other)), (other, A))
        self.same(scheduling_order((X, X), (Y, X)), (X, Y))

    def test_sides_that_are_not_compatible(self):
        self.same(scheduling_order((AB, A, AB), (BC,)), (A, AB, BC))


class LargestTest(Case):
    def test_kept_edits_and_their_cliques(self):
        self.same(largest((), ()), ((), ()))
        self.same(largest((A, B), (C,)), ((A, B, C), ((A,), (B,), (C,))))
        self.same(largest((ABC,), (B,)), ((B,), ((B, ABC),)))

    def test_a_clique_has_its_edits_in_scheduling_order(self):
        self.same(largest((AB, C), (A, BC)), ((A, BC), ((A, AB), (BC, C))))
        self.same(largest((ABC,), (B, C, A)), ((A, B, C), ((A, ABC), (B,), (C,))))
        wide = (0, ("a", "b", "c", "d"), ())
        self.same(largest((wide,), (A, BC)), ((A, BC), ((A, wide), (BC,))))
        self.same(largest((ABC,), ((0, ("a", "b", "c"), ("q",)),))[1], ((ABC, (0, ("a", "b", "c"), ("q",))),))

    def test_a_shared_edit_stands_once(self):
        self.same(largest((A, B), (B, A)), ((A, B), ((A,), (B,))))
        self.same(largest((X, A), (Y, X)), ((A, X, Y), ((A,), (X,), (Y,))))

    def test_insertions(self):
        self.same(largest((X, Y), (AB,)), ((X, Y), ((X, AB), (Y,))))
        self.same(largest((X,), (A, B)), ((A, X, B), ((A,), (X,), (B,))))

    def test_not_compatible(self):
        for first, second in (((A, AB), ()), ((), (A, AB)), ((A, A), (AB, B)), ((X, X), ()), ((A,), (X, X))):
            with self.assertRaises(Conflicting):
                largest(first, second)
        self.assertTrue(issubclass(Conflicting, GazetteError))

    def test_conflicts_between_the_sides_are_no_error(self):
        self.same(largest((A,), (AB,)), ((A,), ((A, AB),)))

    def test_no_compromise_is_larger(self):
        for first, second in compatible_pairs():
            kept, cliques = largest(first, second)
            self.same(is_compromise(first, second, kept), True)
            self.assertEqual(len(kept), max(map(len, all_compromises(first, second))))
            self.same(is_clique_cover(first, second, cliques), True)
            self.check_cliques(first, second, kept, cliques)

    def check_cliques(self, first, second, kept, cliques):
        order = scheduling_order(first, second)
        self.assertEqual(len(kept), len(cliques))
        self.assertEqual(sorted(order), sorted(edit for clique in cliques for edit in clique))
        for number, clique in enumerate(cliques):
            self.assertEqual(clique, tuple(edit for edit in order if edit in clique))
            for edit in clique:
                meets = [edit == other or conflict(edit, other) for other in kept]
                self.assertEqual(meets.index(True), number)


class CliqueCoverTest(Case):
    def test_groups(self):
        self.same(is_clique_cover((A, C), (AB,), ((A, AB), (C,))), True)
        self.same(is_clique_cover((A, C), (AB,), ((C,), (AB, A))), True)
        self.same(is_clique_cover((A, C), (AB,), ((A, AB, C),)), False)
        self.same(is_clique_cover((), (), ()), True)

    def test_an_edit_in_no_group(self):
        self.same(is_clique_cover((A, C), (AB,), ((A, AB),)), False)
        self.same(is_clique_cover((A,), (AB,), ((A,),)), False)
        self.same(is_clique_cover((A,), (AB,), ((AB,),)), False)
        self.same(is_clique_cover((A,), (), ()), False)
        self.same(is_clique_cover((), (X,), ((Y,),)), False)

    def test_other_edits_and_empty_groups(self):
        self.same(is_clique_cover((A,), (), ((A, AB, ABC),)), True)
        self.same(is_clique_cover((A,), (), ((C,), (A,), ())), True)
        self.same(is_clique_cover((A,), (), ((B, C), (A,))), False)

    def test_an_edit_in_several_groups(self):
        self.same(is_clique_cover((AB,), (A, B), ((A, AB), (B, AB))), True)

    def test_an_edit_twice_in_a_group(self):
        self.same(is_clique_cover((A,), (), ((A, A),)), True)
        self.same(is_clique_cover((X,), (), ((X, X),)), False)
        self.same(is_clique_cover((X,), (), ((X,), (X,))), True)

    def test_any_two_edits_conflict(self):
        self.same(is_clique_cover((A, B), (AB,), ((AB, A, B),)), False)
        self.same(is_clique_cover((A, B), (AB,), ((A, B, AB),)), False)
        self.same(is_clique_cover((X, Y), (), ((X, Y),)), False)

    def test_sides_that_are_not_compatible(self):
        self.same(is_clique_cover((A, A, AB), (ABC,), ((A, AB, ABC),)), True)
        self.same(is_clique_cover((X, X), (), ((X,),)), True)

    def test_no_cover_has_fewer_groups_than_a_compromise_has_edits(self):
        groups = [group for many in (1, 2) for group in itertools.combinations(small_edits(), many)]
        for first, second in compatible_pairs():
            size = len(largest(first, second)[0])
            for many in range(min(size, 2)):
                for chosen in itertools.combinations(groups, many):
                    self.same(is_clique_cover(first, second, chosen), False)


if __name__ == "__main__":
    unittest.main()
