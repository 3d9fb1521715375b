"""Points 160, 161, 163 and 164: reported rankings, reported cycles and determinate types."""

import random
import unittest

import reference
from gazette.charters import edges
from gazette.cycles import analyze, determinate_types, verify_cycle
from gazette.rankings import verify_ranking
from gazette.walks import reached, slack
from samples import small_charters
from support import Case, charter_of, entry_type

PLAIN = entry_type()
FORWARD = ("annulled", "cured", "ratified")
# Edges: 0 to 1 (0), 0 to 0 (1), 1 to 0 (2).
CHANGES = charter_of(entry_type(basis=((1, 0),), annulled=((0, 2),)), entry_type(basis=((0, 3),)))
# Eight types around which one goes backward, and type 0 goes forward to itself.
LONG = charter_of(
    entry_type(basis=((1, 12),), annulled=((0, 1),)),
    *[entry_type(basis=(((number + 1) % 8, 12),)) for number in range(1, 8)],
)


def pair(delay, within):
    """Two types: type 0 is based on type 1 and type 1 annulled by type 0."""
    return charter_of(entry_type(basis=((1, delay),)), entry_type(annulled=((0, within),)))


class CyclesCase(Case):
    def safe(self, charter, *rows):
        self.same(analyze(charter), (rows, None))
        self.same(verify_ranking(charter, rows), True)
        self.same(determinate_types(charter), (True,) * len(rows))

    def unsafe(self, charter, *numbers):
        self.same(analyze(charter), (None, numbers))
        self.same(verify_cycle(charter, numbers), True)


class ReportedRankingTest(CyclesCase):
    def test_no_edges(self):
        self.safe(charter_of(PLAIN), (1, "backward", 0))
        self.safe(charter_of(*[PLAIN] * 8), *[(1, "backward", 0)] * 8)

    def test_an_edge_that_leads_to_its_own_type(self):
        self.safe(charter_of(entry_type(basis=((0, 0),))), (1, "backward", 0))
        self.safe(charter_of(entry_type(basis=((0, 12),))), (1, "backward", 0))
        self.safe(charter_of(entry_type(annulled=((0, 12),))), (1, "forward", 0))
        self.safe(charter_of(entry_type(cured=((0, 1),))), (1, "forward", 0))

    def test_edges_between_components_have_no_direction(self):
        for name in FORWARD + ("basis",):
            self.safe(charter_of(entry_type(**{name: ((1, 1),)}), PLAIN), (2, "backward", 0), (1, "backward", 0))

    def test_components_are_numbers_of_types_reached(self):
        charter = charter_of(
            entry_type(basis=((1, 1),), cured=((2, 1),)), entry_type(annulled=((2, 3),)), PLAIN,
            entry_type(cured=((3, 1),)),
        )
        self.safe(charter, (3, "backward", 0), (2, "backward", 0), (1, "backward", 0), (1, "forward", 0))

    def test_directions(self):
        charter = charter_of(
            entry_type(basis=((1, 0),)), entry_type(basis=((0, 4),)), entry_type(annulled=((3, 1),), basis=((0, 1),)),
            entry_type(cured=((2, 2),), basis=((4, 1),)), entry_type(basis=((5, 2),)), entry_type(ratified=((4, 1),)),
        )
        self.safe(
            charter, (2, "backward", 0), (2, "backward", 0), (6, "forward", 0), (6, "forward", 0), (2, "mixed", -8),
            (2, "mixed", 0))

    def test_potentials(self):
        # Two types, so N is 3: a forward edge weighs -3 * within - 1, a backward edge 3 * delay.
        self.safe(pair(3, 2), (2, "mixed", -7), (2, "mixed", 0))
        self.safe(pair(12, 11), (2, "mixed", -34), (2, "mixed", 0))
        both = charter_of(entry_type(annulled=((1, 2),)), entry_type(basis=((0, 3),)))
        self.safe(both, (2, "mixed", 0), (2, "mixed", -7))

    def test_a_potential_of_a_longer_walk(self):
        charter = charter_of(
            entry_type(annulled=((1, 2),)), entry_type(basis=((2, 1),)), entry_type(cured=((3, 4),)),
            entry_type(basis=((0, 6),)),
        )
        # N is 5; the least walks begin at types 0, 0, 0 and 2.
        self.safe(charter, (4, "mixed", 0), (4, "mixed", -11), (4, "mixed", -6), (4, "mixed", -27))

    def test_edges_that_leave_the_component_do_not_count(self):
        charter = charter_of(
            entry_type(annulled=((1, 2), (2, 12))), entry_type(basis=((0, 3),)), entry_type(annulled=((2, 12),)),
        )
        self.safe(charter, (3, "mixed", 0), (3, "mixed", -9), (1, "forward", 0))

    def test_reported_rankings_are_verified_and_their_potentials_cannot_be_less(self):
        mixed = 0
        for charter in small_charters(random.Random(163), 4000):
            ranking = analyze(charter)[0]
            if ranking is not None:
                self.assertTrue(verify_ranking(charter, ranking))
                types = reached(charter)
                self.same([row[0] for row in ranking], [len(others) for others in types])
                for number, (_, direction, potential) in enumerate(ranking):
                    inner = {start for start in types[number] if number in types[start]}
                    self.same(direction, self.direction(charter, inner))
                    least = self.least_weight(charter, inner, number) if direction == "mixed" else 0
                    self.same(potential, least)
                    mixed += direction == "mixed"
        self.assertGreater(mixed, 100)

    def direction(self, charter, inner):
        kinds = {edge[2] == "basis" for edge in edges(charter) if edge[0] in inner and edge[1] in inner}
        return {(): "backward", (True,): "backward", (False,): "forward"}.get(tuple(kinds), "mixed")

    def least_weight(self, charter, inner, end):
        """The least one of 0 and the weights of walks with fewer edges than types, from their ends on."""
        scale = len(charter[9]) + 1
        least, ends = 0, {end: 0}
        for _ in range(scale - 2):
            earlier = {}
            for source, target, kind, sittings in edges(charter):
                if source in inner and target in ends:
                    weight = ends[target] + (scale * sittings if kind == "basis" else -scale * sittings - 1)
                    earlier[source] = min(weight, earlier.get(source, weight))
            ends = earlier
            least = min([least, *ends.values()])
        return least


class ReportedCycleTest(CyclesCase):
    def test_a_slack_of_exactly_0_and_of_exactly_minus_1(self):
        self.unsafe(pair(2, 2), 0, 1)
        self.safe(pair(3, 2), (2, "mixed", -7), (2, "mixed", 0))
        for delay, within in ((1, 1), (12, 12), (0, 1), (3, 12)):
            self.unsafe(pair(delay, within), 0, 1)
        for delay, within in ((2, 1), (12, 11), (12, 1)):
            self.assertIsNone(analyze(pair(delay, within))[1])
            self.same(verify_cycle(pair(delay, within), (0, 1)), False)

    def test_each_kind_of_forward_edge(self):
        for name in FORWARD:
            self.unsafe(charter_of(entry_type(basis=((1, 2),)), entry_type(**{name: ((0, 2),)})), 0, 1)

    def test_several_with_the_fewest_edges(self):
        charter = charter_of(
            entry_type(basis=((0, 9), (1, 1)), cured=((0, 9),)),
            entry_type(basis=((1, 2), (2, 0)), annulled=((2, 1), (0, 1), (1, 2))),
            PLAIN,
        )
        # Edges: 0 to 0 (0), 0 to 1 (1), 0 to 0 (2), 1 to 1 (3), 1 to 2 (4 and 5), 1 to 0 (6), 1 to 1 (7).
        self.unsafe(charter, 0, 2)
        for numbers in ((2, 0), (1, 6), (6, 1), (3, 7), (7, 3)):
            self.same(verify_cycle(charter, numbers), True)

    def test_the_first_one_need_not_begin_at_type_0(self):
        charter = charter_of(
            entry_type(cured=((1, 1),)), entry_type(basis=((0, 1), (2, 0))), entry_type(annulled=((1, 5),)),
        )
        self.unsafe(charter, 0, 1)
        turned = charter_of(
            entry_type(annulled=((1, 5),)), entry_type(basis=((0, 6), (2, 0))), entry_type(annulled=((1, 1),)),
        )
        self.unsafe(turned, 2, 3)

    def test_more_edges_come_later_even_with_lower_numbers(self):
        charter = charter_of(
            entry_type(basis=((0, 3),), annulled=((0, 1),)), entry_type(basis=((1, 2),), annulled=((1, 1),)),
        )
        self.unsafe(charter, 2, 3, 3)

    def test_an_edge_that_occurs_several_times(self):
        self.unsafe(CHANGES, 0, 2, 1, 1)
        self.unsafe(charter_of(entry_type(basis=((0, 5),), cured=((0, 2),))), 0, 1, 1, 1)
        self.unsafe(charter_of(entry_type(basis=((0, 0),), cured=((0, 12),))), 0, 1)

    def test_many_more_edges_than_types(self):
        cycle = analyze(LONG)[1]
        self.same(cycle, (0,) + tuple(range(2, 9)) + (1,) * 96)
        self.same(slack(LONG, cycle), 0)

    def test_8_types_with_all_edges(self):
        pairs = tuple((other, 12) for other in range(8))
        crowded = entry_type(basis=pairs, annulled=tuple((other, 1) for other in range(8)))
        self.unsafe(charter_of(*[crowded] * 8), 0, *(8,) * 12)
        backward = charter_of(entry_type(basis=pairs, cured=((7, 1),)), *[entry_type(basis=pairs)] * 7)
        self.assertEqual({row[0::2] for row in analyze(backward)[0]}, {(8, 0), (8, -10)})

    def test_against_all_walks(self):
        lengths = []
        for charter in small_charters(random.Random(161), 4000):
            ranking, cycle = analyze(charter)
            self.same(cycle, reference.reported_cycle(charter))
            self.assertEqual(ranking is None, cycle is not None)
            if cycle is not None:
                lengths.append(len(cycle))
                self.assertTrue(verify_cycle(charter, cycle))
        self.assertGreater(len(lengths), 1000)
        self.assertGreater(max(lengths), 8)


class VerifyCycleTest(Case):
    def test_cycles_that_begin_anywhere(self):
        for numbers in ((0, 2, 1, 1), (1, 0, 2, 1), (1, 1, 0, 2), (2, 1, 1, 0)):
            self.same(verify_cycle(CHANGES, numbers), True)

    def test_cycles_with_more_edges_than_needed(self):
        self.same(verify_cycle(CHANGES, (0, 2, 1, 1, 1, 1, 1)), True)
        self.same(verify_cycle(CHANGES, (0, 2, 1, 1, 0, 2, 1, 1)), True)
        self.same(verify_cycle(CHANGES, (0, 2, 0, 2, 1, 1, 1)), True)

    def test_no_walk(self):
        self.same(verify_cycle(CHANGES, ()), False)
        self.same(verify_cycle(CHANGES, (0, 0, 1, 1)), False)
        self.same(verify_cycle(CHANGES, (0, 1, 1, 1)), False)

    def test_not_closed(self):
        self.same(verify_cycle(CHANGES, (1, 1, 0)), False)
        self.same(verify_cycle(pair(0, 1), (0,)), False)

    def test_not_mixed(self):
        self.same(verify_cycle(CHANGES, (1,)), False)
        self.same(verify_cycle(CHANGES, (1, 1, 1)), False)
        self.same(verify_cycle(charter_of(entry_type(basis=((0, 0),))), (0,)), False)

    def test_a_slack_below_0(self):
        self.same(verify_cycle(CHANGES, (0, 2, 1)), False)
        self.same(verify_cycle(pair(3, 2), (0, 1)), False)

    def test_long_ones(self):
        self.same(verify_cycle(LONG, (0, *range(2, 9)) + (1,) * 96), True)
        self.same(verify_cycle(LONG, (0, *range(2, 9)) + (1,) * 95), False)
        self.same(verify_cycle(LONG, (0, *range(2, 9)) + (1,) * 992), True)


class DeterminateTest(Case):
    def test_safe_charters(self):
        self.same(determinate_types(charter_of(PLAIN)), (True,))
        self.same(determinate_types(pair(3, 2)), (True, True))

    def test_a_type_that_reaches_a_cycle_without_lying_on_it(self):
        charter = charter_of(
            entry_type(basis=((1, 0),), cured=((1, 1),)), entry_type(basis=((1, 1),), annulled=((1, 1),)),
            PLAIN, entry_type(annulled=((0, 12),)), entry_type(basis=((2, 1),)),
        )
        self.same(determinate_types(charter), (False, False, True, False, True))

    def test_a_type_that_is_reached_from_a_cycle(self):
        charter = charter_of(PLAIN, entry_type(basis=((0, 1), (1, 1)), annulled=((1, 1),)))
        self.same(determinate_types(charter), (True, False))

    def test_a_cycle_that_is_much_longer_than_the_reported_one(self):
        # Types 0 and 1 have a cycle of two edges, types 2 and 3 one of 26.
        one, other = entry_type(basis=((1, 1),)), entry_type(annulled=((0, 1),))
        slow = entry_type(basis=((3, 12),), cured=((2, 1),))
        charter = charter_of(one, other, slow, entry_type(basis=((2, 12),)))
        self.same(analyze(charter)[1], (0, 1))
        self.same(verify_cycle(charter, (2, 4) + (3,) * 24), True)
        self.same(verify_cycle(charter, (2, 4) + (3,) * 23), False)
        self.same(determinate_types(charter), (False,) * 4)
        safe = charter_of(one, other, slow[:4] + ((), ()), entry_type(basis=((2, 12),)))
        self.same(determinate_types(safe), (False, False, True, True))

    def test_a_cycle_with_a_slack_of_exactly_0_or_minus_1(self):
        others = (entry_type(basis=((0, 1),), annulled=((0, 1),)), entry_type(basis=((0, 1),)))
        first = entry_type(basis=((1, 2),), cured=((1, 2),))
        self.same(determinate_types(charter_of(first, *others)), (False, False, False))
        first = entry_type(basis=((1, 2),), cured=((1, 1),))
        self.same(determinate_types(charter_of(first, others[1], PLAIN)), (False, False, True))
        first = entry_type(basis=((1, 3),))
        self.same(determinate_types(charter_of(first, entry_type(annulled=((0, 2),)), PLAIN)), (True,) * 3)

    def test_walks_without_slack_that_are_not_mixed(self):
        # The types go backward without delay, and forward only with more than is made up for.
        charter = charter_of(
            entry_type(basis=((1, 0), (2, 0))), entry_type(basis=((0, 0), (2, 5))), entry_type(annulled=((1, 4),)),
        )
        self.same(determinate_types(charter), (False,) * 3)
        charter = charter_of(
            entry_type(basis=((1, 0), (2, 5))), entry_type(basis=((0, 0), (2, 6))), entry_type(annulled=((1, 4),)),
        )
        self.same(determinate_types(charter), (True,) * 3)

    def test_against_all_walks(self):
        kinds = {True: 0, False: 0}
        for charter in small_charters(random.Random(164), 1500):
            starts = reference.unsafe_starts(charter)
            expected = tuple(not any(start in types for start in starts) for types in reached(charter))
            self.same(determinate_types(charter), expected)
            for is_determinate in expected:
                kinds[is_determinate] += 1
        self.assertGreater(min(kinds.values()), 500)


if __name__ == "__main__":
    unittest.main()
