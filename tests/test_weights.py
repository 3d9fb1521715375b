"""Points 80, 83 and 84: the heaviest compromise and line prices."""

import itertools
import random
import unittest

from gazette.compromises import is_compromise, scheduling_order
from gazette.errors import Conflicting, GazetteError
from gazette.weights import heaviest, is_price_cover, price_bound
from support import Case, all_compromises, compatible_pairs

A, AB, ABC = (0, ("a",), ()), (0, ("a", "b"), ()), (0, ("a", "b", "c"), ())
B, BC, C = (1, ("b",), ()), (1, ("b", "c"), ()), (2, ("c",), ())
AT_0, X, Y, AT_2 = (0, (), ("x",)), (1, (), ("x",)), (1, (), ("y",)), (2, (), ("x",))

NOT_COMPATIBLE = [
    ((A, AB), ()), ((), (A, AB)), ((A, AB), (BC, C)), ((A, A), ()), ((), (X, X)), ((X, AB), ()), ((), (AB, X)),
]


def weighed(seed=83):
    """Pairs of compatible edits with weights, small ones so that many compromises weigh the same."""
    numbers = random.Random(seed)
    for first, second in compatible_pairs():
        for greatest in (1, 3, 100):
            yield (
                first, second,
                tuple(numbers.randint(0, greatest) for _ in first), tuple(numbers.randint(0, greatest) for _ in second),
            )


def weights_of(first, second, first_weights, second_weights):
    found = {}
    for edit, weight in [*zip(first, first_weights), *zip(second, second_weights)]:
        found[edit] = found.get(edit, 0) + weight
    return found


class HeaviestTest(Case):
    def test_the_heavier_side(self):
        self.same(heaviest((AB,), (A, B), (5,), (2, 2)), ((AB,), 5, (2, 3)))
        self.same(heaviest((AB,), (A, B), (5,), (2, 4)), ((A, B), 6, (2, 4)))
        self.same(heaviest((ABC,), (C,), (7,), (3,)), ((ABC,), 7, (0, 0, 7)))

    def test_no_edits(self):
        self.same(heaviest((), (), (), ()), ((), 0, ()))

    def test_only_insertions_before_the_first_line(self):
        self.same(heaviest((AT_0,), ((0, (), ()),), (4,), (5,)), ((AT_0, (0, (), ())), 9, ()))

    def test_an_edit_of_both_sides_has_both_weights(self):
        self.same(heaviest((A, C), (BC, A), (1, 5), (4, 2)), ((A, C), 8, (3, 0, 5)))
        self.same(heaviest((C, A), (A, BC), (5, 1), (2, 6)), ((A, BC), 9, (3, 0, 6)))

    def test_an_edit_of_both_sides_is_kept_without_weight(self):
        self.same(heaviest((A, X), (X, A), (0, 0), (0, 0)), ((A, X), 0, (0,)))

    def test_the_later_edit_wins(self):
        self.same(heaviest((A,), (AB,), (3,), (3,)), ((AB,), 3, (3, 0)))
        self.same(heaviest((AB,), (A,), (3,), (3,)), ((AB,), 3, (3, 0)))
        self.same(heaviest((AB,), (B,), (2,), (2,)), ((B,), 2, (0, 2)))
        self.same(heaviest((AB,), (B,), (0,), (0,)), ((B,), 0, (0, 0)))
        other = (0, ("a",), ("q",))
        self.same(heaviest((A,), (other,), (1,), (1,)), ((other,), 1, (1,)))
        self.same(heaviest((other,), (A,), (1,), (1,)), ((A,), 1, (1,)))

    def test_the_last_difference_decides(self):
        self.same(heaviest((A, BC), (AB, C), (2, 2), (2, 2)), ((AB, C), 4, (2, 0, 2)))
        self.same(heaviest((ABC,), (A, B), (5,), (2, 3)), ((ABC,), 5, (2, 3, 0)))
        self.same(heaviest((A,), (B,), (0,), (0,)), ((A, B), 0, (0, 0)))

    def test_edits_in_scheduling_order(self):
        self.same(heaviest((C, A), (Y, B, X), (1, 1), (1, 1, 1))[0], (A, Y, X, B, C))

    def test_insertions_have_no_price(self):
        self.same(heaviest((X,), (Y,), (4,), (5,)), ((X, Y), 9, (0,)))
        self.same(heaviest((X,), (X,), (4,), (5,)), ((X,), 9, (0,)))
        self.same(heaviest((X,), (AB,), (4,), (5,)), ((AB,), 5, (0, 1)))
        self.same(heaviest((X,), (AB,), (4,), (4,)), ((AB,), 4, (0, 0)))
        self.same(heaviest((X,), (AB,), (4,), (3,)), ((X,), 4, (0, 0)))
        self.same(heaviest((AT_2,), (AB,), (4,), (3,)), ((AB, AT_2), 7, (0, 3)))
        self.same(heaviest((AT_0,), (AB,), (4,), (3,)), ((AT_0, AB), 7, (0, 3)))

    def test_prices_up_to_the_greatest_end_of_all_edits(self):
        self.same(heaviest((ABC,), (A,), (1,), (2,)), ((A,), 2, (2, 0, 0)))
        self.same(heaviest(((5, ("f",), ()),), (), (2,), ()), (((5, ("f",), ()),), 2, (0, 0, 0, 0, 0, 2)))
        self.same(heaviest(((3, (), ()),), (), (2,), ()), (((3, (), ()),), 2, (0, 0, 0)))

    def test_great_weights(self):
        self.same(heaviest((A,), (A,), (1000000,), (1000000,)), ((A,), 2000000, (2000000,)))

    def test_not_compatible(self):
        for first, second in NOT_COMPATIBLE:
            with self.assertRaises(Conflicting):
                heaviest(first, second, (1,) * len(first), (1,) * len(second))
        self.assertTrue(issubclass(Conflicting, GazetteError))

    def test_against_all_compromises(self):
        for first, second, first_weights, second_weights in weighed():
            weights = weights_of(first, second, first_weights, second_weights)
            order = scheduling_order(first, second)
            candidates = [
                (sum(weights[edit] for edit in edits), [edit in edits for edit in order[::-1]])
                for edits in all_compromises(first, second)
            ]
            best = max(candidates)
            edits, weight, prices = heaviest(first, second, first_weights, second_weights)
            self.same(weight, best[0])
            self.same(edits, tuple(edit for edit, taken in zip(order, best[1][::-1]) if taken))
            self.same(is_compromise(first, second, edits), True)
            self.same(prices, self.prices_by_trying(first + second, weights))

    def prices_by_trying(self, edits, weights):
        def prefix(position):
            inside = tuple(edit for edit in edits if edit[0] + len(edit[1]) <= position)
            return max(sum(map(weights.get, chosen)) for chosen in all_compromises(inside, ()))

        def inserted(position):
            return sum(weight for edit, weight in weights.items() if edit[0] == position and not edit[1])

        edits = tuple(set(edits))
        length = max([edit[0] + len(edit[1]) for edit in edits], default=0)
        return tuple(prefix(line + 1) - prefix(line) - inserted(line + 1) for line in range(length))


class PriceCoverTest(Case):
    def test_the_lines_that_are_removed(self):
        self.same(is_price_cover((AB,), (), (5,), (), (2, 3)), True)
        self.same(is_price_cover((AB,), (), (5,), (), (2, 2, 9)), False)
        self.same(is_price_cover((B,), (), (5,), (), (9, 5)), True)
        self.same(is_price_cover((B,), (), (5,), (), (9, 4, 9)), False)

    def test_each_edit_of_both_sides(self):
        self.same(is_price_cover((A,), (B,), (1,), (2,), (1, 2)), True)
        self.same(is_price_cover((A,), (B,), (1,), (2,), (0, 2)), False)
        self.same(is_price_cover((A,), (B,), (1,), (2,), (1, 1)), False)

    def test_an_edit_of_both_sides_has_both_weights(self):
        self.same(is_price_cover((A,), (A,), (1,), (2,), (3,)), True)
        self.same(is_price_cover((A,), (A,), (1,), (2,), (2,)), False)

    def test_lines_beyond_the_end_have_no_price(self):
        self.same(is_price_cover((AB,), (), (2,), (), (2,)), True)
        self.same(is_price_cover((AB,), (), (3,), (), (2,)), False)
        self.same(is_price_cover((C,), (), (1,), (), (2,)), False)
        self.same(is_price_cover((C,), (), (0,), (), ()), True)

    def test_no_edits(self):
        self.same(is_price_cover((), (), (), (), ()), True)
        self.same(is_price_cover((), (), (), (), (3,)), True)

    def test_insertions_need_no_price(self):
        self.same(is_price_cover((X,), (AT_0,), (9,), (9,), ()), True)

    def test_insertions_strictly_inside(self):
        self.same(is_price_cover((AB,), (X,), (5,), (2,), (1, 2)), True)
        self.same(is_price_cover((AB,), (X,), (5,), (1,), (1, 2)), False)
        self.same(is_price_cover((X,), (AB,), (2,), (5,), (1, 2)), True)
        self.same(is_price_cover((X, Y), (AB,), (2, 1), (6,), (1, 2)), True)

    def test_insertions_at_the_ends(self):
        self.same(is_price_cover((AB,), (AT_0,), (5,), (9,), (1, 2)), False)
        self.same(is_price_cover((AB,), (AT_2,), (5,), (9,), (1, 2)), False)
        self.same(is_price_cover((A,), (X, AT_0), (5,), (9, 9), (4,)), False)

    def test_equal_insertions_count_once_with_both_weights(self):
        self.same(is_price_cover((X, A), (X, AT_0), (2, 0), (3, 0), (0,)), True)
        first, second = (X,), (X, (2, ("c",), ()))
        self.same(price_bound(first, second, (2,), (3, 1), (0, 0, 1)), 6)
        wide = (0, ("a", "b", "c"), ())
        between = ((1, (), ("x",)), (2, (), ("x",)))
        self.same(is_price_cover(between, (wide,), (2, 3), (6,), (1, 0, 0)), True)
        self.same(is_price_cover(between, (wide,), (2, 3), (7,), (1, 0, 0)), False)

    def test_not_compatible(self):
        for first, second in NOT_COMPATIBLE:
            with self.assertRaises(Conflicting):
                is_price_cover(first, second, (0,) * len(first), (0,) * len(second), (9, 9, 9))

    def test_line_prices_cover_and_none_are_too_high(self):
        for first, second, first_weights, second_weights in weighed(84):
            edits, weight, prices = heaviest(first, second, first_weights, second_weights)
            weighted = (first, second, first_weights, second_weights)
            self.same(is_price_cover(*weighted, prices), True)
            self.same(price_bound(*weighted, prices), weight)
            self.assertEqual([price for price in prices if price < 0], [])
            for line, price in enumerate(prices):
                lower = prices[:line] + (price - 1,) + prices[line + 1:]
                if price > 0:
                    self.same(is_price_cover(*weighted, lower), False)

    def test_no_compromise_exceeds_the_bound_of_prices_that_cover(self):
        for first, second, first_weights, second_weights in itertools.islice(weighed(85), 0, None, 5):
            weighted = (first, second, first_weights, second_weights)
            weight = heaviest(*weighted)[1]
            for prices in itertools.product((0, 1, 3), repeat=3):
                if is_price_cover(*weighted, prices):
                    self.assertGreaterEqual(price_bound(*weighted, prices), weight)


class PriceBoundTest(Case):
    def test_all_prices_and_all_insertions(self):
        self.same(price_bound((AB,), (X,), (5,), (2,), (1, 2)), 5)
        self.same(price_bound((X, AT_0), (Y,), (5, 1), (2,), ()), 8)
        self.same(price_bound((A,), (), (5,), (), (1, 2, 3, 4)), 10)
        self.same(price_bound((), (), (), (), ()), 0)
        self.same(price_bound((), (), (), (), (7,)), 7)

    def test_whether_the_prices_cover_or_not(self):
        self.same(price_bound((A,), (), (5,), (), ()), 0)

    def test_equal_insertions_count_once_with_both_weights(self):
        self.same(price_bound((X,), (X,), (5,), (2,), (1,)), 8)

    def test_not_compatible(self):
        for first, second in NOT_COMPATIBLE:
            with self.assertRaises(Conflicting):
                price_bound(first, second, (0,) * len(first), (0,) * len(second), ())


if __name__ == "__main__":
    unittest.main()
