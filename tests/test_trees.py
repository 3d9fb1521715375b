"""Points 120 and 121: budget trees."""

import itertools
import unittest

from gazette.trees import (
    children, common_ancestor, descendants, distance, is_consistent_table, node_totals, own_amounts, path,
)
from support import Case, small_trees

#      0
#    1   2
#   3 4   5
#  6
TREE = (0, 0, 1, 1, 2, 3)
LINE = tuple(range(11))
STAR = (0,) * 11


class PathTest(Case):
    def test_from_the_node_to_the_root(self):
        self.same(path(TREE, 6), (6, 3, 1, 0))
        self.same(path(TREE, 5), (5, 2, 0))
        self.same(path(TREE, 1), (1, 0))
        self.same(path(LINE, 11), tuple(range(11, -1, -1)))

    def test_the_root(self):
        self.same(path(TREE, 0), (0,))
        self.same(path((), 0), (0,))


class ChildrenTest(Case):
    def test_ascending(self):
        self.same(children(TREE, 0), (1, 2))
        self.same(children(TREE, 1), (3, 4))
        self.same(children(TREE, 3), (6,))
        self.same(children(STAR, 0), tuple(range(1, 12)))

    def test_a_leaf(self):
        self.same(children(TREE, 6), ())
        self.same(children((), 0), ())


class DescendantsTest(Case):
    def test_ascending(self):
        self.same(descendants(TREE, 1), (1, 3, 4, 6))
        self.same(descendants(TREE, 3), (3, 6))
        self.same(descendants(TREE, 2), (2, 5))

    def test_the_root_and_a_leaf(self):
        self.same(descendants(TREE, 0), (0, 1, 2, 3, 4, 5, 6))
        self.same(descendants(TREE, 6), (6,))
        self.same(descendants((), 0), (0,))
        self.same(descendants(LINE, 11), (11,))
        self.same(descendants(STAR, 0), tuple(range(12)))


class CommonAncestorTest(Case):
    def test_two_nodes(self):
        self.same(common_ancestor(TREE, 6, 4), 1)
        self.same(common_ancestor(TREE, 6, 5), 0)
        self.same(common_ancestor(TREE, 1, 2), 0)

    def test_a_node_and_itself(self):
        for node in range(7):
            self.same(common_ancestor(TREE, node, node), node)

    def test_a_node_and_its_descendant(self):
        self.same(common_ancestor(TREE, 1, 6), 1)
        self.same(common_ancestor(TREE, 6, 1), 1)
        self.same(common_ancestor(TREE, 0, 5), 0)
        self.same(common_ancestor(TREE, 5, 0), 0)

    def test_against_descendants(self):
        for tree in small_trees(5):
            nodes = range(len(tree) + 1)
            for first, second in itertools.product(nodes, repeat=2):
                shared = [node for node in nodes if {first, second} <= set(descendants(tree, node))]
                self.same(common_ancestor(tree, first, second), max(shared))


class DistanceTest(Case):
    def test_two_nodes(self):
        self.same(distance(TREE, 6, 5), 5)
        self.same(distance(TREE, 5, 6), 5)
        self.same(distance(TREE, 3, 4), 2)
        self.same(distance(LINE, 0, 11), 11)
        self.same(distance(STAR, 3, 11), 2)

    def test_a_node_and_itself(self):
        self.same(distance(TREE, 4, 4), 0)
        self.same(distance((), 0, 0), 0)

    def test_a_node_and_its_descendant(self):
        self.same(distance(TREE, 1, 6), 2)
        self.same(distance(TREE, 6, 0), 3)

    def test_step_by_step(self):
        for tree in small_trees(5):
            nodes = range(len(tree) + 1)
            for first in nodes:
                reached, many = {first}, 0
                while reached:
                    for second in nodes:
                        if second in reached:
                            self.assertGreaterEqual(many, distance(tree, first, second))
                    many += 1
                    wider = reached | {tree[node - 1] for node in reached if node}
                    wider |= {node for node in nodes if node and tree[node - 1] in reached}
                    for second in wider - reached:
                        self.same(distance(tree, first, second), many)
                    reached = wider if wider != reached else set()


class TotalsTest(Case):
    def test_totals(self):
        self.same(node_totals(TREE, (1, 2, 4, 8, 16, 32, 64)), (127, 90, 36, 72, 16, 32, 64))
        self.same(node_totals((), (5,)), (5,))
        self.same(node_totals(STAR, (0,) * 12), (0,) * 12)
        self.same(node_totals(LINE, (1000000,) * 12)[0], 12000000)

    def test_own_amounts(self):
        self.same(own_amounts(TREE, (127, 90, 36, 72, 16, 32, 64)), (1, 2, 4, 8, 16, 32, 64))
        self.same(own_amounts((), (5,)), (5,))
        self.same(own_amounts((0,), (20000000, 1)), (19999999, 1))

    def test_a_negative_own_amount(self):
        self.same(own_amounts((0, 0), (3, 1, 2)), (0, 1, 2))
        self.same(own_amounts((0, 0), (3, 2, 2)), None)
        self.same(own_amounts((0, 1), (9, 1, 2)), None)
        self.same(own_amounts((0, 0, 1), (11, 4, 2, 5)), None)
        self.same(own_amounts((0,), (0, 0)), (0, 0))

    def test_totals_lead_back(self):
        for tree in small_trees(4):
            for own in itertools.product((0, 1, 5), repeat=len(tree) + 1):
                totals = node_totals(tree, own)
                self.same(own_amounts(tree, totals), own)
                for node, total in enumerate(totals):
                    self.same(total, sum(own[below] for below in descendants(tree, node)))

    def test_some_own_amounts_or_none(self):
        for tree in small_trees(3):
            for totals in itertools.product(range(4), repeat=len(tree) + 1):
                own = own_amounts(tree, totals)
                found = [
                    amounts for amounts in itertools.product(range(4), repeat=len(tree) + 1)
                    if node_totals(tree, amounts) == totals
                ]
                self.same([] if own is None else [own], found)


class ConsistentTableTest(Case):
    def test_tables(self):
        self.same(is_consistent_table((0, 0), ((1, 6), (2, 2), (3, 3))), True)
        self.same(is_consistent_table((0, 0), ((1, 5), (2, 2), (3, 3))), False)
        self.same(is_consistent_table((0, 0), ((1, 6), (2, 3), (3, 3))), False)
        self.same(is_consistent_table((0, 0), ((1, 6), (2, 2), (3, 2))), False)
        self.same(is_consistent_table((), ((7, 7),)), True)
        self.same(is_consistent_table((), ((7, 8),)), False)

    def test_too_few_and_too_many_rows(self):
        self.same(is_consistent_table((0, 0), ((1, 3), (2, 2))), False)
        self.same(is_consistent_table((0, 0), ((1, 6), (2, 2), (3, 3), (0, 0))), False)
        self.same(is_consistent_table((), ((7, 7), (0, 0))), False)
        self.same(is_consistent_table((0,), ((7, 7),)), False)

    def test_against_totals(self):
        for tree in small_trees(4):
            for own in itertools.product((0, 3), repeat=len(tree) + 1):
                totals = node_totals(tree, own)
                self.same(is_consistent_table(tree, tuple(zip(own, totals))), True)
                for node in range(len(totals)):
                    wrong = totals[:node] + (totals[node] + 1,) + totals[node + 1:]
                    self.same(is_consistent_table(tree, tuple(zip(own, wrong))), False)


if __name__ == "__main__":
    unittest.main()
