"""Points 120 to 123: budget trees of which only some totals are known."""

import itertools
import random
import unittest

from gazette.partial import complete, nearest_known, open_leaves
from gazette.trees import descendants, node_totals, path
from support import Case, small_trees

TREE = (0, 0, 1, 1)
UNKNOWN = (None,) * 5


def some_known(seed):
    """Trees with some known totals, all small ones and a few that are larger."""
    numbers = random.Random(seed)
    for tree in small_trees(4):
        for known in itertools.product((None, 0, 1, 3), repeat=len(tree) + 1):
            yield tree, known
    for tree in small_trees(6):
        if len(tree) > 3:
            for _ in range(6):
                yield tree, tuple(numbers.choice((None, None, 0, 1, 3)) for _ in range(len(tree) + 1))


def leaf_amounts(tree):
    """All own amounts of leaves up to 4, and 0 for other nodes."""
    for amounts in itertools.product(*[(0,) if node in tree else range(5) for node in range(len(tree) + 1)]):
        yield amounts


def agrees(totals, known, nodes):
    return all(known[node] in (None, totals[node]) for node in nodes)


class CompleteTest(Case):
    def test_the_root_alone(self):
        self.same(complete((), (7,)), (None, ((7, 7),), (7,)))
        self.same(complete((), (0,)), (None, ((0, 0),), (0,)))
        self.same(complete((), (None,)), (None, ((0, None),), (0,)))

    def test_no_known_totals(self):
        self.same(complete(TREE, UNKNOWN), (None, ((0, None),) * 5, (0,) * 5))

    def test_all_totals_known(self):
        self.same(complete(TREE, (9, 5, 4, 2, 3)), (
            None, ((9, 9), (5, 5), (4, 4), (2, 2), (3, 3)), (0, 0, 4, 2, 3)))
        self.same(complete(TREE, (9, 5, 4, 2, 2)), (1, None, None))
        self.same(complete(TREE, (8, 5, 4, 2, 3)), (0, None, None))

    def test_a_conflict_at_the_parent_of_a_leaf(self):
        self.same(complete((0, 1), (None, 2, 3)), (1, None, None))
        self.same(complete((0, 1), (None, 3, 2)), (1, None, None))
        self.same(complete((0, 1), (None, 3, 3)), (None, ((3, 3), (3, 3), (3, 3)), (0, 0, 3)))

    def test_a_conflict_at_the_root(self):
        self.same(complete((0, 0), (2, 3, None)), (0, None, None))
        self.same(complete((0, 0), (4, 3, None)), (None, ((4, 4), (3, 3), (1, 1)), (0, 3, 1)))
        self.same(complete((0, 1), (4, None, 3)), (0, None, None))
        self.same(complete((0, 0), (1000000, 0, 999999)), (0, None, None))

    def test_the_first_conflict_from_the_last_node_on(self):
        self.same(complete((0, 0, 1, 2), (None, 1, 1, 2, 2)), (2, None, None))
        self.same(complete((0, 0, 1, 2), (0, 1, 2, 2, 2)), (1, None, None))
        self.same(complete((0, 1, 2), (5, 4, 3, 2)), (2, None, None))
        self.same(complete((0, 1, 2), (5, 4, None, 3)), (1, None, None))

    def test_a_high_that_is_none_beside_one_that_is_not(self):
        self.same(complete((0, 0), (None, 3, None)), (None, ((3, None), (3, 3), (0, None)), (0, 3, 0)))
        self.same(complete((0, 0), (None, None, 3)), (None, ((3, None), (0, None), (3, 3)), (0, 0, 3)))
        self.same(complete((0, 0, 1, 1), (None, None, None, 4, None)), (
            None, ((4, None), (4, None), (0, None), (4, 4), (0, None)), (0, 0, 0, 4, 0)))
        self.same(complete((0, 0, 1), (9, None, None, 4)), (None, ((9, 9), (4, 4), (5, 5), (4, 4)), (0, 0, 5, 4)))

    def test_a_low_that_the_others_leave(self):
        self.same(complete((0, 0, 0), (9, 2, None, 3)), (None, ((9, 9), (2, 2), (4, 4), (3, 3)), (0, 2, 4, 3)))
        self.same(complete((0, 0, 0), (9, None, None, 3)), (
            None, ((9, 9), (0, 6), (0, 6), (3, 3)), (0, 0, 6, 3)))

    def test_the_first_completion_has_the_least_totals_from_the_root_on(self):
        self.same(complete((0, 0, 1, 2), (6, None, None, None, None))[2], (0, 0, 0, 0, 6))
        self.same(complete((0, 0), (6, None, None))[2], (0, 0, 6))
        self.same(complete((0, 0, 0), (6, None, None, None))[2], (0, 0, 0, 6))
        self.same(complete((0, 0, 0, 1, 1, 2, 2), (9, None, 3, 5, None, 1, None, None))[2], (
            0, 0, 0, 5, 0, 1, 0, 3))

    def test_amounts_exceed_the_bound_of_known_totals(self):
        self.same(complete((0, 0), (None, 1000000, 1000000)), (
            None, ((2000000, 2000000), (1000000, 1000000), (1000000, 1000000)), (0, 1000000, 1000000)))

    def test_against_all_completions(self):
        for tree, known in some_known(122):
            nodes = range(len(tree) + 1)
            totals = [node_totals(tree, amounts) for amounts in leaf_amounts(tree)]
            conflict, ranges, amounts = complete(tree, known)
            impossible = [
                node for node in nodes
                if not any(agrees(candidate, known, descendants(tree, node)) for candidate in totals)
            ]
            if impossible:
                self.same((conflict, ranges, amounts), (max(impossible), None, None))
                continue
            self.same(conflict, None)
            completions = [candidate for candidate in totals if agrees(candidate, known, nodes)]
            self.same(node_totals(tree, amounts), min(completions))
            for node in nodes:
                self.check_range(tree, node, ranges[node], completions)

    def check_range(self, tree, node, given, completions):
        leaves = [below for below in descendants(tree, node) if below not in tree]
        unbounded = any(max(candidate[leaf] for candidate in completions) > 3 for leaf in leaves)
        values = {candidate[node] for candidate in completions}
        self.same(given, (min(values), None if unbounded else max(values)))
        self.assertEqual(len(values), max(values) - min(values) + 1)


class NearestKnownTest(Case):
    def test_known_below(self):
        self.same(nearest_known(TREE, (10, None, None, 4, None), 0), (3,))
        self.same(nearest_known(TREE, (10, None, 2, 4, 5), 0), (2, 3, 4))
        self.same(nearest_known(TREE, (10, None, 2, 4, 5), 1), (3, 4))

    def test_a_known_total_below_another_one(self):
        self.same(nearest_known(TREE, (10, 6, None, 4, None), 0), (1,))
        self.same(nearest_known(TREE, (10, 6, None, 4, None), 1), (3,))
        self.same(nearest_known((0, 1, 2), (None, 5, None, 5), 0), (1,))
        self.same(nearest_known((0, 1, 2, 3), (None, 5, None, None, 5), 1), (4,))

    def test_a_total_of_0_is_known(self):
        self.same(nearest_known(TREE, (0, 0, None, 0, None), 0), (1,))

    def test_the_node_itself_does_not_count(self):
        self.same(nearest_known(TREE, (10, 6, None, None, None), 1), ())
        self.same(nearest_known(TREE, (10, 6, None, 4, None), 3), ())
        self.same(nearest_known((), (1,), 0), ())

    def test_nothing_known(self):
        self.same(nearest_known(TREE, UNKNOWN, 0), ())


class OpenLeavesTest(Case):
    def test_unknown_leaves(self):
        self.same(open_leaves(TREE, UNKNOWN, 0), (2, 3, 4))
        self.same(open_leaves(TREE, (10, None, None, 4, None), 0), (2, 4))
        self.same(open_leaves(TREE, UNKNOWN, 1), (3, 4))

    def test_leaves_below_a_known_total(self):
        self.same(open_leaves(TREE, (10, 6, None, None, None), 0), (2,))
        self.same(open_leaves(TREE, (10, 6, None, None, None), 1), (3, 4))
        self.same(open_leaves(TREE, (10, 0, None, None, None), 0), (2,))

    def test_a_leaf_is_open_below_itself(self):
        self.same(open_leaves(TREE, UNKNOWN, 3), (3,))
        self.same(open_leaves(TREE, (10, 6, None, 4, None), 3), (3,))
        self.same(open_leaves((), (5,), 0), (0,))
        self.same(open_leaves((), (None,), 0), (0,))

    def test_none(self):
        self.same(open_leaves(TREE, (None, None, 1, 2, 3), 0), ())

    def test_both_against_the_paths(self):
        for tree, known in some_known(123):
            for node in range(len(tree) + 1):
                free = []
                for other in descendants(tree, node):
                    above = path(tree, other)
                    between = above[1:above.index(node)] if other != node else ()
                    if all(known[step] is None for step in between):
                        free.append(other)
                nearest = [other for other in free if other != node and known[other] is not None]
                leaves = [other for other in free if other not in tree and (other == node or known[other] is None)]
                self.same(nearest_known(tree, known, node), tuple(nearest))
                self.same(open_leaves(tree, known, node), tuple(leaves))

    def test_a_total_is_that_of_the_nearest_known_nodes_if_no_leaf_is_open(self):
        for tree, known in some_known(124):
            conflict, ranges, _ = complete(tree, known)
            for node in range(len(tree) + 1):
                if conflict is None and node in tree and not open_leaves(tree, known, node):
                    total = sum(known[other] for other in nearest_known(tree, known, node))
                    self.same(ranges[node], (total, total))


if __name__ == "__main__":
    unittest.main()
