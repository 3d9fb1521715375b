"""Point 160: walks of a charter."""

import random
import unittest

from gazette.charters import edges
from gazette.walks import is_walk, reached, slack
from support import Case, charter_of, entry_type

PLAIN = entry_type()
# Edges: 0 to 1 (0 and 1), 0 to 0 (2), 1 to 2 (3), 2 to 0 (4 and 5).
ROUND = charter_of(
    entry_type(basis=((1, 3),), annulled=((1, 2), (0, 5))),
    entry_type(cured=((2, 12),)),
    entry_type(basis=((0, 4),), annulled=((0, 1),)),
)


class IsWalkTest(Case):
    def test_the_empty_tuple(self):
        self.same(is_walk(ROUND, ()), False)
        self.same(is_walk(charter_of(PLAIN), ()), False)

    def test_one_edge(self):
        for number in range(6):
            self.same(is_walk(ROUND, (number,)), True)

    def test_edges_that_meet(self):
        self.same(is_walk(ROUND, (0, 3)), True)
        self.same(is_walk(ROUND, (1, 3, 4, 0, 3, 5, 2, 2, 2, 1)), True)
        self.same(is_walk(ROUND, (2, 2)), True)

    def test_edges_that_do_not_meet(self):
        self.same(is_walk(ROUND, (0, 0)), False)
        self.same(is_walk(ROUND, (3, 0)), False)
        self.same(is_walk(ROUND, (0, 3, 3)), False)
        self.same(is_walk(ROUND, (0, 4)), False)
        self.same(is_walk(ROUND, (0, 3, 4, 4)), False)
        self.same(is_walk(ROUND, (5, 3, 5)), False)

    def test_a_walk_need_not_be_closed(self):
        self.same(is_walk(ROUND, (3, 4)), True)

    def test_a_long_walk(self):
        self.same(is_walk(ROUND, (0, 3, 4) * 333 + (0,)), True)
        self.same(is_walk(ROUND, (0, 3, 4) * 333 + (3,)), False)


class SlackTest(Case):
    def test_the_empty_tuple(self):
        self.same(slack(ROUND, ()), 0)

    def test_forward_and_backward_edges(self):
        self.same(slack(ROUND, (0,)), -3)
        self.same(slack(ROUND, (1,)), 2)
        self.same(slack(ROUND, (0, 3, 4)), 5)
        self.same(slack(ROUND, (0, 3, 5)), 10)
        self.same(slack(ROUND, (2, 2, 2)), 15)

    def test_edges_that_are_no_walk(self):
        self.same(slack(ROUND, (0, 0, 4, 4, 4)), -18)
        self.same(slack(ROUND, (5, 1, 3)), 15)

    def test_ratification_is_forward(self):
        self.same(slack(charter_of(entry_type(ratified=((1, 7),)), PLAIN), (0,)), 7)

    def test_a_delay_of_0(self):
        self.same(slack(charter_of(entry_type(basis=((0, 0),))), (0, 0)), 0)


class ReachedTest(Case):
    def test_a_type_that_reaches_only_itself(self):
        self.same(reached(charter_of(PLAIN)), ((0,),))
        self.same(reached(charter_of(PLAIN, PLAIN)), ((0,), (1,)))
        self.same(reached(charter_of(entry_type(basis=((0, 1),)))), ((0,),))

    def test_in_one_direction(self):
        charter = charter_of(PLAIN, entry_type(basis=((0, 1),)), entry_type(cured=((1, 1),)))
        self.same(reached(charter), ((0,), (0, 1), (0, 1, 2)))

    def test_around(self):
        self.same(reached(ROUND), ((0, 1, 2),) * 3)

    def test_a_later_type_first(self):
        charter = charter_of(entry_type(basis=((3, 1),)), PLAIN, PLAIN, entry_type(annulled=((1, 1),)))
        self.same(reached(charter), ((0, 1, 3), (1,), (2,), (1, 3)))

    def test_all_kinds_of_edges(self):
        for name in ("basis", "annulled", "cured", "ratified"):
            self.same(reached(charter_of(entry_type(**{name: ((1, 1),)}), PLAIN)), ((0, 1), (1,)))

    def test_against_longer_and_longer_walks(self):
        numbers = random.Random(160)
        for _ in range(200):
            many = numbers.randint(1, 8)
            entry_types = [
                entry_type(**{numbers.choice(("basis", "cured")): tuple(
                    (other, 1) for other in sorted(numbers.sample(range(many), numbers.randint(0, min(2, many)))))})
                for _ in range(many)
            ]
            charter = charter_of(*entry_types)
            pairs = {(number, number) for number in range(many)} | {edge[:2] for edge in edges(charter)}
            for _ in range(many):
                pairs |= {(one, other) for one, middle in pairs for start, other in pairs if middle == start}
            expected = [tuple(sorted(other for one, other in pairs if one == number)) for number in range(many)]
            self.same(reached(charter), tuple(expected))


if __name__ == "__main__":
    unittest.main()
