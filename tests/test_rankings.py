"""Points 160 and 162: rankings."""

import itertools
import random
import unittest

from gazette.charters import edges
from gazette.rankings import verify_ranking
from gazette.walks import is_walk, slack
from support import Case, charter_of, entry_type

PLAIN = entry_type()
BACK = charter_of(entry_type(basis=((1, 0),)), PLAIN)
CHANGES = charter_of(entry_type(basis=((0, 0),), annulled=((1, 2),)), entry_type(basis=((0, 3),)))


def row(component=0, direction="mixed", potential=0):
    return (component, direction, potential)


class RowsTest(Case):
    def test_one_row_for_each_type(self):
        self.same(verify_ranking(charter_of(PLAIN), (row(),)), True)
        self.same(verify_ranking(charter_of(PLAIN, PLAIN), (row(8, "forward", 5), row(0, "backward", -5))), True)

    def test_too_few_and_too_many_rows(self):
        self.same(verify_ranking(charter_of(PLAIN), ()), False)
        self.same(verify_ranking(charter_of(PLAIN, PLAIN), (row(),)), False)
        self.same(verify_ranking(charter_of(PLAIN), (row(), row())), False)
        self.same(verify_ranking(BACK, (row(1),)), False)
        self.same(verify_ranking(BACK, (row(1), row(), row())), False)
        eight = charter_of(*[PLAIN] * 8)
        self.same(verify_ranking(eight, (row(),) * 8), True)
        self.same(verify_ranking(eight, (row(),) * 9), False)


class ComponentsTest(Case):
    def test_a_lower_component_is_enough(self):
        for name in ("basis", "annulled", "cured", "ratified"):
            charter = charter_of(entry_type(**{name: ((1, 5),)}), PLAIN)
            for one, other in itertools.product(("backward", "forward", "mixed"), repeat=2):
                self.same(verify_ranking(charter, (row(1, one, -9), row(0, other, 9))), True)
                self.same(verify_ranking(charter, (row(8, one, -9), row(7, other, 9))), True)

    def test_a_greater_component(self):
        for direction in ("backward", "forward", "mixed"):
            self.same(verify_ranking(BACK, (row(0, direction), row(1, direction))), False)

    def test_equal_components_with_different_directions(self):
        for one, other in itertools.permutations(("backward", "forward", "mixed"), 2):
            for name in ("basis", "annulled"):
                charter = charter_of(entry_type(**{name: ((1, 5),)}), PLAIN)
                self.same(verify_ranking(charter, (row(2, one, 99), row(2, other, -99))), False)


class DirectionsTest(Case):
    def test_backward(self):
        self.same(verify_ranking(BACK, (row(1, "backward", -5), row(1, "backward", 5))), True)
        for name in ("annulled", "cured", "ratified"):
            charter = charter_of(entry_type(**{name: ((1, 1),)}), PLAIN)
            self.same(verify_ranking(charter, (row(1, "backward", 99), row(1, "backward", -99))), False)

    def test_forward(self):
        self.same(verify_ranking(BACK, (row(1, "forward", 99), row(1, "forward", -99))), False)
        for name in ("annulled", "cured", "ratified"):
            charter = charter_of(entry_type(**{name: ((1, 12),)}), PLAIN)
            self.same(verify_ranking(charter, (row(1, "forward", -5), row(1, "forward", 5))), True)

    def test_edges_of_a_type_to_itself(self):
        self.same(verify_ranking(charter_of(entry_type(basis=((0, 0),))), (row(0, "backward"),)), True)
        self.same(verify_ranking(charter_of(entry_type(basis=((0, 0),))), (row(0, "mixed", 7),)), True)
        self.same(verify_ranking(charter_of(entry_type(cured=((0, 1),))), (row(0, "forward"),)), True)
        self.same(verify_ranking(charter_of(entry_type(cured=((0, 1),))), (row(0, "mixed", 7),)), False)


class PotentialsTest(Case):
    def test_a_backward_edge(self):
        # Three types, so N is 4.
        charter = charter_of(entry_type(basis=((1, 2),)), PLAIN, PLAIN)
        self.same(verify_ranking(charter, (row(potential=-5), row(potential=3), row())), True)
        self.same(verify_ranking(charter, (row(potential=-5), row(potential=4), row())), False)
        self.same(verify_ranking(charter, (row(potential=-5), row(potential=-100), row())), True)

    def test_a_forward_edge(self):
        for name in ("annulled", "cured", "ratified"):
            charter = charter_of(entry_type(**{name: ((1, 2),)}), PLAIN, PLAIN)
            self.same(verify_ranking(charter, (row(potential=9), row(potential=0), row())), True)
            self.same(verify_ranking(charter, (row(potential=8), row(potential=0), row())), False)
            self.same(verify_ranking(charter, (row(potential=8), row(potential=-1), row())), True)

    def test_a_delay_of_0(self):
        self.same(verify_ranking(BACK, (row(potential=4), row(potential=4))), True)
        self.same(verify_ranking(BACK, (row(potential=4), row(potential=5))), False)

    def test_great_potentials(self):
        self.same(verify_ranking(BACK, (row(potential=1000000), row(potential=-1000000))), True)
        self.same(verify_ranking(BACK, (row(potential=-1000000), row(potential=1000000))), False)

    def test_each_edge_counts(self):
        self.same(verify_ranking(CHANGES, (row(2), row(2, "mixed", -7))), True)
        self.same(verify_ranking(CHANGES, (row(2), row(2, "mixed", -9))), True)
        self.same(verify_ranking(CHANGES, (row(2), row(2, "mixed", -10))), False)
        self.same(verify_ranking(CHANGES, (row(2), row(2, "mixed", -6))), False)

    def test_an_unsafe_charter_has_no_ranking(self):
        charter = charter_of(entry_type(basis=((0, 0),), annulled=((1, 2),)), entry_type(basis=((0, 2),)))
        for component, direction, potential in itertools.product(
            (1, 2, 3), ("backward", "forward", "mixed"), range(-12, 13),
        ):
            self.same(verify_ranking(charter, (row(2), (component, direction, potential))), False)

    def test_verified_charters_have_no_unsafe_cycle(self):
        numbers = random.Random(162)
        verified = 0
        for _ in range(3000):
            charter = self.some_charter(numbers)
            ranking = tuple(
                row(numbers.randint(0, 1), numbers.choice(("backward", "mixed", "mixed", "forward")),
                    numbers.randint(-9, 9)) for _ in range(2)
            )
            if verify_ranking(charter, ranking):
                verified += 1
                self.check_safe(charter)
        self.assertGreater(verified, 100)

    def some_charter(self, numbers):
        entry_types = []
        for _ in range(2):
            names = numbers.sample(("basis", "basis", "annulled", "cured"), numbers.randint(0, 2))
            entry_types.append(entry_type(**{
                name: ((numbers.randint(0, 1), numbers.randint(0, 3) if name == "basis" else 1),) for name in names
            }))
        return charter_of(*entry_types)

    def check_safe(self, charter):
        all_edges = edges(charter)
        for many in range(2, 6):
            for walk in itertools.product(range(len(all_edges)), repeat=many):
                kinds = {all_edges[number][2] == "basis" for number in walk}
                closed = all_edges[walk[0]][0] == all_edges[walk[-1]][1]
                if len(kinds) == 2 and closed and is_walk(charter, walk):
                    self.assertLess(slack(charter, walk), 0)


if __name__ == "__main__":
    unittest.main()
