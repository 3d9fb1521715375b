"""Points 120, 124 and 125: claims and payments."""

import itertools
import unittest

from gazette.reserves import divide, pay, settle
from gazette.trees import path
from support import Case, small_trees

TREE = (0, 0, 1)


def some_funds():
    """Small trees with funds and claims."""
    for tree in small_trees(3):
        for funds in itertools.product((0, 1, 3), repeat=len(tree) + 1):
            for claims in itertools.product((0, 1, 2), repeat=len(tree) + 1):
                yield tree, funds, claims


class SettleTest(Case):
    def test_claims_that_can_be_paid(self):
        self.same(settle(TREE, (9, 2, 3, 1), (0, 1, 2, 5)), ((0, 3, 0, 4), (6, 0, 1, 0), ()))
        self.same(settle(TREE, (9, 9, 9, 9), (1, 2, 3, 4)), ((0, 0, 0, 0), (8, 7, 6, 5), ()))

    def test_claims_that_cannot_be_paid(self):
        self.same(settle(TREE, (1, 2, 5, 1), (0, 1, 2, 5)), ((2, 3, 0, 4), None, (0, 1, 3)))
        self.same(settle((), (3,), (5,)), ((2,), None, (0,)))
        self.same(settle((0, 0), (0, 0, 0), (0, 1, 1)), ((2, 1, 1), None, (0, 1, 2)))

    def test_just_enough(self):
        self.same(settle((), (5,), (5,)), ((0,), (0,), ()))
        self.same(settle((0,), (2, 3), (0, 5)), ((0, 2), (0, 0), ()))
        self.same(settle((0,), (1, 3), (0, 5)), ((1, 2), None, (0, 1)))

    def test_no_claims(self):
        self.same(settle(TREE, (1, 0, 2, 3), (0, 0, 0, 0)), ((0, 0, 0, 0), (1, 0, 2, 3), ()))

    def test_a_shortfall_below_a_node_without_one(self):
        self.same(settle(TREE, (0, 9, 0, 0), (1, 0, 0, 5)), ((1, 0, 0, 5), None, (0,)))
        self.same(settle((0, 1, 1), (0, 9, 0, 0), (0, 0, 4, 5)), ((0, 0, 4, 5), (0, 0, 0, 0), ()))
        self.same(settle((0, 0, 1, 2), (0, 9, 0, 0, 0), (0, 0, 0, 3, 2))[2], (0, 2, 4))

    def test_funds_of_other_branches_do_not_help(self):
        self.same(settle((0, 0), (0, 9, 0), (0, 0, 1)), ((1, 0, 1), None, (0, 2)))

    def test_great_amounts(self):
        self.same(settle((0,) * 11, (0,) * 12, (1000000,) * 12)[0], (12000000,) + (1000000,) * 11)

    def test_the_deficit_subtree_lacks_what_the_root_lacks(self):
        for tree, funds, claims in some_funds():
            shortfalls, remaining, deficit = settle(tree, funds, claims)
            expected = [
                node for node in range(len(funds)) if all(shortfalls[above] > 0 for above in path(tree, node))
            ]
            self.same(deficit, tuple(expected))
            self.same(shortfalls[0], sum(claims[node] - funds[node] for node in deficit))
            self.same(remaining is None, shortfalls[0] > 0)

    def test_payments_in_any_order_leave_the_remaining_funds(self):
        for tree, funds, claims in some_funds():
            remaining = settle(tree, funds, claims)[1]
            for order in itertools.permutations(range(len(funds))):
                self.same(pay(tree, funds, tuple((node, claims[node]) for node in order)), remaining)


class PaymentsTest(Case):
    def check(self, tree, funds, payments, left, division):
        self.same(pay(tree, funds, payments), left)
        self.same(divide(tree, funds, payments), division)

    def test_payments(self):
        self.check(TREE, (9, 2, 3, 1), ((3, 5), (1, 1), (2, 2)), (6, 0, 1, 0), (
            ((3, 1), (1, 2), (0, 2)), ((0, 1),), ((2, 2),)))
        self.check(TREE, (9, 2, 3, 1), ((2, 1), (2, 1)), (9, 2, 1, 1), (((2, 1),), ((2, 1),)))

    def test_no_payments(self):
        self.check(TREE, (9, 2, 3, 1), (), (9, 2, 3, 1), ())

    def test_a_payment_of_0(self):
        self.check(TREE, (9, 2, 3, 1), ((3, 0),), (9, 2, 3, 1), ((),))
        self.check((), (0,), ((0, 0), (0, 0)), (0,), ((), ()))

    def test_a_node_that_does_not_exist(self):
        self.check(TREE, (9, 2, 3, 1), ((4, 1),), None, None)
        self.check(TREE, (9, 2, 3, 1), ((4, 0),), None, None)
        self.check((), (9,), ((0, 1), (11, 0)), None, None)

    def test_a_payment_that_needs_the_whole_path(self):
        self.check(TREE, (9, 2, 3, 1), ((3, 12),), (0, 0, 3, 0), (((3, 1), (1, 2), (0, 9)),))
        self.check(TREE, (9, 2, 3, 1), ((3, 13),), None, None)
        self.check(TREE, (9, 2, 3, 1), ((3, 3),), (9, 0, 3, 0), (((3, 1), (1, 2)),))

    def test_amounts_of_0_are_left_out(self):
        self.check(TREE, (9, 0, 3, 1), ((3, 5),), (5, 0, 3, 0), (((3, 1), (0, 4)),))
        self.check(TREE, (9, 2, 3, 0), ((3, 2),), (9, 0, 3, 0), (((1, 2),),))
        self.check(TREE, (9, 2, 3, 0), ((3, 1), (1, 1)), (9, 0, 3, 0), (((1, 1),), ((1, 1),)))

    def test_one_impossible_payment(self):
        self.check(TREE, (9, 2, 3, 1), ((2, 12), (0, 1)), None, None)
        self.check(TREE, (9, 2, 3, 1), ((0, 10), (2, 1)), None, None)
        self.check(TREE, (9, 2, 3, 1), ((2, 12), (1, 2)), (0, 0, 0, 1), (((2, 3), (0, 9)), ((1, 2),)))

    def test_funds_below_a_node_do_not_help(self):
        self.check(TREE, (0, 0, 5, 5), ((1, 1),), None, None)

    def test_parts_add_up(self):
        for tree, funds, claims in some_funds():
            payments = tuple(enumerate(claims))[::-1]
            division = divide(tree, funds, payments)
            left = pay(tree, funds, payments)
            self.same(division is None, left is None)
            if division is not None:
                self.assertEqual([sum(part for _, part in parts) for parts in division], list(claims)[::-1])
                taken = [0] * len(funds)
                for node, part in itertools.chain(*division):
                    taken[node] += part
                    self.assertGreater(part, 0)
                self.same(left, tuple(fund - part for fund, part in zip(funds, taken)))


if __name__ == "__main__":
    unittest.main()
