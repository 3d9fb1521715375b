"""Points 120 and 126 to 128: transfers."""

import itertools
import unittest

from gazette.errors import GazetteError, TotalsDiffer
from gazette.transfers import crossings, lower_bound, net_flows, node_prices, plan_transfers
from gazette.trees import common_ancestor, descendants, distance
from support import Case, small_trees

TREE = (0, 0, 1, 1)


def changes():
    """Small trees with two tuples of amounts that have the same sum."""
    for tree in small_trees(4):
        amounts = list(itertools.product((0, 1, 3), repeat=len(tree) + 1))
        for before, after in itertools.product(amounts[::2], amounts):
            if sum(before) == sum(after):
                yield tree, before, after


class NetFlowsTest(Case):
    def test_flows(self):
        self.same(net_flows(TREE, (0, 5, 0, 4, 0), (2, 0, 3, 1, 3)), (0, -5, 3, -3, 3))
        self.same(net_flows((0, 1), (1, 0, 0), (0, 0, 1)), (0, 1, 1))
        self.same(net_flows((0, 1), (0, 0, 1), (1, 0, 0)), (0, -1, -1))

    def test_no_change(self):
        self.same(net_flows(TREE, (1, 2, 3, 4, 5), (1, 2, 3, 4, 5)), (0, 0, 0, 0, 0))
        self.same(net_flows((), (4,), (4,)), (0,))


class PlanTest(Case):
    def test_a_plan(self):
        self.same(plan_transfers(TREE, (0, 5, 0, 4, 0), (2, 0, 3, 1, 3)), (
            14, ((1, 4, 3), (1, 0, 2), (3, 2, 3)), (5, 3, 0, 0, 0)))

    def test_no_change_at_all(self):
        self.same(plan_transfers(TREE, (1, 2, 3, 4, 5), (1, 2, 3, 4, 5)), (0, (), (0, 0, 0, 0, 0)))
        self.same(plan_transfers((), (7,), (7,)), (0, (), (0,)))

    def test_the_node_itself_comes_first(self):
        self.same(plan_transfers((0, 0), (2, 2, 0), (0, 0, 4))[1], ((0, 2, 2), (1, 2, 2)))
        self.same(plan_transfers((0, 0), (0, 0, 4), (2, 2, 0))[1], ((2, 0, 2), (2, 1, 2)))

    def test_children_in_ascending_order(self):
        self.same(plan_transfers((0, 0, 0), (0, 1, 1, 0), (0, 0, 0, 2))[1], ((1, 3, 1), (2, 3, 1)))
        self.same(plan_transfers((0, 0, 0), (0, 2, 0, 0), (0, 0, 1, 1))[1], ((1, 2, 1), (1, 3, 1)))

    def test_elements_are_passed_on_in_their_order(self):
        self.same(plan_transfers((0, 0, 1, 1), (0, 1, 0, 1, 1), (0, 0, 3, 0, 0))[1], (
            (1, 2, 1), (3, 2, 1), (4, 2, 1)))
        self.same(plan_transfers((0, 0, 1, 1), (0, 0, 3, 0, 0), (0, 1, 0, 1, 1))[1], (
            (2, 1, 1), (2, 3, 1), (2, 4, 1)))
        self.same(plan_transfers((0, 0, 1, 2), (0, 0, 0, 1, 1), (2, 0, 0, 0, 0))[1], ((3, 0, 1), (4, 0, 1)))

    def test_an_element_that_is_partly_used_stays_in_front(self):
        self.same(plan_transfers((0, 0, 0, 0), (0, 5, 1, 0, 0), (0, 0, 0, 2, 4))[1], (
            (1, 3, 2), (1, 4, 3), (2, 4, 1)))
        self.same(plan_transfers((0, 0, 0, 0), (0, 1, 5, 0, 0), (0, 0, 0, 2, 4))[1], (
            (1, 3, 1), (2, 3, 1), (2, 4, 4)))

    def test_from_the_last_node_to_the_root(self):
        tree = (0, 0, 1, 1, 2, 2)
        self.same(plan_transfers(tree, (0, 0, 0, 4, 0, 2, 0), (0, 0, 0, 0, 3, 0, 3)), (
            14, ((5, 6, 2), (3, 4, 3), (3, 6, 1)), (1, 3, 2, 0, 0, 0, 0)))

    def test_a_plan_achieves_the_change_at_the_least_cost(self):
        for tree, before, after in changes():
            cost, transfers, approvals = plan_transfers(tree, before, after)
            amounts, spent, approved = list(before), 0, [0] * len(before)
            made_at = []
            for source, target, amount in transfers:
                self.assertGreater(amount, 0)
                amounts[source] -= amount
                amounts[target] += amount
                spent += amount * distance(tree, source, target)
                made_at.append(common_ancestor(tree, source, target))
                approved[made_at[-1]] += amount
            self.same(tuple(amounts), after)
            self.same(cost, spent)
            self.same(cost, sum(map(abs, net_flows(tree, before, after)[1:])))
            self.same(approvals, tuple(approved))
            self.assertEqual(made_at, sorted(made_at, reverse=True))
            self.same(crossings(tree, transfers)[0], cost)

    def test_edges_are_crossed_in_one_direction_only(self):
        for tree, before, after in changes():
            _, upwards, downwards, _ = crossings(tree, plan_transfers(tree, before, after)[1])
            flows = [down - up for up, down in zip(upwards, downwards)]
            self.assertEqual(tuple(flows), net_flows(tree, before, after))
            self.assertEqual([0 in pair for pair in zip(upwards, downwards)], [True] * len(before))


class CrossingsTest(Case):
    def test_up_and_down(self):
        self.same(crossings(TREE, ((3, 2, 7),)), (21, (0, 7, 0, 7, 0), (0, 0, 7, 0, 0), (7, 0, 0, 0, 0)))
        self.same(crossings(TREE, ((2, 3, 7),)), (21, (0, 0, 7, 0, 0), (0, 7, 0, 7, 0), (7, 0, 0, 0, 0)))
        self.same(crossings(TREE, ((3, 4, 7),)), (14, (0, 0, 0, 7, 0), (0, 0, 0, 0, 7), (0, 7, 0, 0, 0)))

    def test_a_node_and_its_descendant(self):
        self.same(crossings(TREE, ((3, 0, 2),)), (4, (0, 2, 0, 2, 0), (0, 0, 0, 0, 0), (2, 0, 0, 0, 0)))
        self.same(crossings(TREE, ((1, 4, 2),)), (2, (0, 0, 0, 0, 0), (0, 0, 0, 0, 2), (0, 2, 0, 0, 0)))

    def test_a_transfer_from_a_node_to_itself(self):
        self.same(crossings(TREE, ((3, 3, 9),)), (0, (0,) * 5, (0,) * 5, (0, 0, 0, 9, 0)))
        self.same(crossings((), ((0, 0, 9),)), (0, (0,), (0,), (9,)))

    def test_no_transfers(self):
        self.same(crossings(TREE, ()), (0, (0,) * 5, (0,) * 5, (0,) * 5))

    def test_a_transfer_of_nothing(self):
        self.same(crossings(TREE, ((3, 2, 0),)), (0, (0,) * 5, (0,) * 5, (0,) * 5))

    def test_both_directions_add_up(self):
        self.same(crossings(TREE, ((1, 2, 1), (2, 1, 10), (1, 2, 100))), (
            222, (0, 101, 10, 0, 0), (0, 10, 101, 0, 0), (111, 0, 0, 0, 0)))

    def test_against_the_descendants(self):
        for tree in small_trees(5):
            nodes = range(len(tree) + 1)
            for source, target in itertools.product(nodes, repeat=2):
                up = [source in descendants(tree, node) and target not in descendants(tree, node) for node in nodes]
                down = [target in descendants(tree, node) and source not in descendants(tree, node) for node in nodes]
                cost, upwards, downwards, approvals = crossings(tree, ((source, target, 3), (source, target, 2)))
                self.same(upwards, tuple(5 * crossed for crossed in up))
                self.same(downwards, tuple(5 * crossed for crossed in down))
                self.same(cost, 5 * (sum(up) + sum(down)))
                lowest = common_ancestor(tree, source, target)
                self.same(approvals, tuple(5 * (node == lowest) for node in nodes))


class PricesTest(Case):
    def test_prices_of_a_change(self):
        self.same(node_prices(TREE, (0, 5, 0, 4, 0), (2, 0, 3, 1, 3)), (0, -1, 1, -2, 0))
        self.same(node_prices((0, 1, 2), (3, 0, 0, 0), (0, 0, 0, 3)), (0, 1, 2, 3))
        self.same(node_prices((0, 1, 2), (0, 0, 0, 3), (3, 0, 0, 0)), (0, -1, -2, -3))
        self.same(node_prices((0, 1, 2), (3, 0, 0, 0), (0, 0, 3, 0)), (0, 1, 2, 2))

    def test_no_change(self):
        self.same(node_prices(TREE, (1, 2, 3, 4, 5), (1, 2, 3, 4, 5)), (0, 0, 0, 0, 0))
        self.same(node_prices((), (1,), (1,)), (0,))

    def test_their_bound_is_the_least_cost(self):
        for tree, before, after in changes():
            prices = node_prices(tree, before, after)
            self.same(lower_bound(tree, before, after, prices), plan_transfers(tree, before, after)[0])


class LowerBoundTest(Case):
    def test_bounds(self):
        self.same(lower_bound(TREE, (0, 5, 0, 4, 0), (2, 0, 3, 1, 3), (0, -1, 1, -2, 0)), 14)
        self.same(lower_bound(TREE, (0, 5, 0, 4, 0), (2, 0, 3, 1, 3), (0, 0, 0, 0, 0)), 0)
        self.same(lower_bound(TREE, (0, 5, 0, 4, 0), (2, 0, 3, 1, 3), (7, 6, 8, 5, 7)), 14)
        self.same(lower_bound((0,), (5, 0), (2, 3), (0, -1)), -3)
        self.same(lower_bound((0,), (5, 0), (2, 3), (1000, 999)), -3)
        self.same(lower_bound((), (5,), (5,), (9,)), 0)

    def test_prices_that_are_not_admissible(self):
        for prices in ((0, 2), (2, 0), (-1, 1), (1000, -1000)):
            self.same(lower_bound((0,), (5, 0), (2, 3), prices), None)
        self.same(lower_bound((0, 0, 1), (5, 0, 0, 0), (5, 0, 0, 0), (0, 1, -1, 3)), None)
        self.same(lower_bound((0, 0, 1), (5, 0, 0, 0), (5, 0, 0, 0), (0, 1, -1, 2)), 0)
        self.same(lower_bound((0, 0), (5, 0, 0), (5, 0, 0), (0, 2, 0)), None)
        self.same(lower_bound((0, 0), (5, 0, 0), (5, 0, 0), (0, 1, -1)), 0)

    def test_no_bound_exceeds_the_least_cost(self):
        for tree, before, after in itertools.islice(changes(), 0, None, 7):
            cost = plan_transfers(tree, before, after)[0]
            for prices in itertools.product((-1, 0, 1, 2), repeat=len(before)):
                bound = lower_bound(tree, before, after, prices)
                admissible = all(abs(prices[node] - prices[parent]) <= 1 for node, parent in enumerate(tree, 1))
                self.same(bound is not None, admissible)
                if admissible:
                    self.assertLessEqual(bound, cost)


class TotalsDifferTest(Case):
    def test_refused(self):
        for function in (net_flows, plan_transfers, node_prices):
            for before, after in (((1, 0), (0, 0)), ((0, 0), (0, 1)), ((1000000, 1), (1000000, 2))):
                with self.assertRaises(TotalsDiffer):
                    function((0,), before, after)
        self.assertTrue(issubclass(TotalsDiffer, GazetteError))

    def test_a_lower_bound_is_refused_first(self):
        for prices in ((0, 0), (0, 1), (0, 2), (5, -5)):
            with self.assertRaises(TotalsDiffer):
                lower_bound((0,), (1, 0), (0, 0), prices)


if __name__ == "__main__":
    unittest.main()
