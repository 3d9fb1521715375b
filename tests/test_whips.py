"""Points 7, 20, 24 and 25: read-once rules."""

import itertools
import unittest

from gazette.errors import NotReadOnce
from gazette.rules import passes
from gazette.whips import decisive_absences, decisive_yeas, is_read_once, least_absences, least_yeas
from support import SIMPLE_RULES, Case, in_chamber

PARAMETERS = (3, 2)
QUESTIONS = (least_yeas, least_absences, decisive_yeas, decisive_absences)
YEA = ("yeas", 0, 1)
NEVER = ("yeas", 1, 9)
ALWAYS = ("yeas", 2, 0)


def by_numbers(rule, sizes, numbers, chosen, others):
    """The result if so many members of each chamber vote as chosen, and the others otherwise."""
    seats, roll_call = [], ""
    for size, number in zip(sizes, numbers):
        seats.append(tuple(range(len(roll_call), len(roll_call) + size)))
        roll_call += chosen * number + others * (size - number)
    return passes(rule, tuple(seats), roll_call, parameters=PARAMETERS)


def all_numbers(sizes):
    return itertools.product(*[range(size + 1) for size in sizes])


class ReadOnceTest(Case):
    def test_simple_rules(self):
        for rule in SIMPLE_RULES:
            self.same(is_read_once(rule), True)

    def test_the_premier(self):
        self.same(is_read_once(("premier",)), False)
        self.same(is_read_once(("any", YEA, ("premier",))), False)
        self.same(is_read_once(("all", ("any", YEA, ("all", NEVER, ("premier",))), ALWAYS)), False)

    def test_a_chamber_twice(self):
        self.same(is_read_once(("all", YEA, ("quorum", 0, 2))), False)
        self.same(is_read_once(("all", YEA, YEA)), False)
        self.same(is_read_once(("any", ("all", YEA, NEVER), ("any", ALWAYS, ("majority", 1, "seats")))), False)

    def test_different_chambers(self):
        rule = ("any", ("all", YEA, NEVER), ("any", ALWAYS, ("majority", 3, "seats")))
        self.same(is_read_once(rule), True)
        self.same(is_read_once(("all", YEA, NEVER)), True)

    def test_the_same_parameter_twice_is_no_chamber_twice(self):
        rule = ("all", ("yeas", 0, ("parameter", 0)), ("yeas", 1, ("parameter", 0)))
        self.same(is_read_once(rule), True)


class RefusedTest(Case):
    def check(self, rule):
        for question in QUESTIONS:
            with self.assertRaises(NotReadOnce):
                question(rule, (3, 3, 3, 3))

    def test_the_premier(self):
        self.check(("premier",))
        for form in ("all", "any"):
            self.check((form, ("premier",), YEA))
            self.check((form, YEA, ("premier",)))
            self.check((form, NEVER, ("premier",)))
            self.check((form, ("premier",), NEVER))

    def test_a_chamber_twice(self):
        twice = ("all", ("yeas", 3, 1), ("majority", 3, "seats"))
        self.check(twice)
        for form in ("all", "any"):
            self.check((form, twice, YEA))
            self.check((form, YEA, twice))
            self.check((form, NEVER, twice))
            self.check((form, ALWAYS, ("any", YEA, twice)))

    def test_a_chamber_on_both_sides(self):
        for form in ("all", "any"):
            self.check((form, ("any", YEA, NEVER), ("all", ALWAYS, ("quorum", 0, 1))))
            self.check((form, YEA, YEA))

    def test_a_chamber_beyond_the_end_twice(self):
        for question in QUESTIONS:
            with self.assertRaises(NotReadOnce):
                question(("any", ("yeas", 2, 0), ("yeas", 2, 0)), (1,))

    def test_answers_again_after_an_error(self):
        for question in QUESTIONS:
            before = question(("any", YEA, NEVER), (3, 3))
            with self.assertRaises(NotReadOnce):
                question(("premier",), (3, 3))
            self.same(question(("any", YEA, NEVER), (3, 3)), before)


class LeastNumbersTest(Case):
    def check(self, rule, sizes):
        """The numbers are the fewest of all that decide, and the decisive ones do decide."""
        cases = (
            (least_yeas, decisive_yeas, "Y", "N", True),
            (least_absences, decisive_absences, "-", "Y", False),
        )
        for least, decisive, chosen, others, result in cases:
            found = [
                numbers for numbers in all_numbers(sizes)
                if by_numbers(rule, sizes, numbers, chosen, others) is result
            ]
            fewest = min([sum(numbers) for numbers in found], default=None)
            self.same(least(rule, sizes, parameters=PARAMETERS), fewest)
            told = decisive(rule, sizes, parameters=PARAMETERS)
            if fewest is None:
                self.same(told, None)
            else:
                self.assertIn(told, found)
                self.same(sum(told), fewest)

    def test_simple_rules(self):
        for rule in SIMPLE_RULES + (("yeas", 0, 0), ("quorum", 0, 0), ("yeas", 0, 9), ("fraction", 0, 1, 1, "seats")):
            for size in range(5):
                self.check(rule, (size,))
                self.check(in_chamber(rule, 1), (2, size, 1))

    def test_two_chambers(self):
        for form in ("all", "any"):
            for first in SIMPLE_RULES:
                for second in SIMPLE_RULES:
                    self.check((form, first, in_chamber(second, 1)), (3, 2))
                    self.check((form, in_chamber(first, 1), second), (1, 4))

    def test_depth_four(self):
        parts = [in_chamber(rule, place) for place, rule in enumerate(SIMPLE_RULES[2:6])]
        for forms in itertools.product(("all", "any"), repeat=3):
            rule = (forms[0], parts[0], (forms[1], (forms[2], parts[1], parts[2]), parts[3]))
            self.check(rule, (2, 3, 1, 2))

    def test_parameters(self):
        rule = ("yeas", 0, ("parameter", 1))
        self.same(least_yeas(rule, (5,), parameters=(0, 4)), 4)
        self.same(least_absences(rule, (5,), parameters=(0, 4)), 2)
        self.same(decisive_yeas(rule, (5,), parameters=(0, 4)), (4,))
        self.same(decisive_absences(rule, (5,), parameters=(0, 4)), (2,))
        self.same(least_yeas(rule, (5,)), 0)
        self.same(least_absences(rule, (5,)), None)


class NoneTest(Case):
    """NEVER has no least yeas and ALWAYS no least absences."""

    def test_none_beside_a_number(self):
        sizes = (3, 2, 2)
        for x, y in ((YEA, NEVER), (NEVER, YEA)):
            self.same(least_yeas(("all", x, y), sizes), None)
            self.same(decisive_yeas(("all", x, y), sizes), None)
            self.same(least_yeas(("any", x, y), sizes), 1)
            self.same(decisive_yeas(("any", x, y), sizes), (1, 0, 0))
        for x, y in ((YEA, ALWAYS), (ALWAYS, YEA)):
            self.same(least_absences(("all", x, y), sizes), 3)
            self.same(decisive_absences(("all", x, y), sizes), (3, 0, 0))
            self.same(least_absences(("any", x, y), sizes), None)
            self.same(decisive_absences(("any", x, y), sizes), None)

    def test_none_beside_none(self):
        other = ("quorum", 0, 9)
        always = ("fraction", 0, 1, 2, "voting")
        for form in ("all", "any"):
            self.same(least_yeas((form, NEVER, other), (3, 2, 2)), None)
            self.same(decisive_yeas((form, NEVER, other), (3, 2, 2)), None)
            self.same(least_absences((form, ALWAYS, always), (3, 2, 2)), None)
            self.same(decisive_absences((form, ALWAYS, always), (3, 2, 2)), None)

    def test_none_beside_zero(self):
        self.same(least_yeas(("any", NEVER, ALWAYS), (3, 2, 2)), 0)
        self.same(decisive_yeas(("any", NEVER, ALWAYS), (3, 2, 2)), (0, 0, 0))
        self.same(decisive_absences(("all", ALWAYS, NEVER), (3, 2, 2)), (0, 0, 0))
        self.same(least_absences(("all", ALWAYS, NEVER), (3, 2, 2)), 0)


class PlacesTest(Case):
    def test_a_chamber_beyond_the_end(self):
        self.same(least_yeas(("yeas", 2, 0), (3, 3)), 0)
        self.same(decisive_yeas(("yeas", 2, 0), (3, 3)), (0, 0))
        self.same(decisive_yeas(("yeas", 2, 1), (3, 3)), None)
        self.same(least_absences(("majority", 3, "seats"), (3,)), 0)
        self.same(decisive_absences(("majority", 3, "seats"), (3,)), (0,))
        self.same(decisive_absences(("fraction", 3, 1, 2, "seats"), (3,)), None)
        self.same(decisive_yeas(("all", ("fraction", 3, 1, 2, "seats"), ("yeas", 0, 2)), (3,)), (2,))

    def test_size_zero(self):
        self.same(decisive_yeas(("fraction", 1, 1, 2, "seats"), (3, 0)), (0, 0))
        self.same(decisive_yeas(("majority", 1, "seats"), (3, 0)), None)
        self.same(decisive_absences(("majority", 1, "seats"), (3, 0)), (0, 0))

    def test_equal_operands(self):
        x, y = ("yeas", 1, 2), ("yeas", 0, 2)
        self.same(decisive_yeas(("any", x, y), (3, 3)), (0, 2))
        self.same(decisive_yeas(("any", y, x), (3, 3)), (2, 0))
        self.same(decisive_absences(("all", x, y), (3, 3)), (0, 2))
        self.same(decisive_absences(("all", y, x), (3, 3)), (2, 0))

    def test_fewer_of_the_operands(self):
        x, y = ("yeas", 0, 2), ("yeas", 1, 1)
        self.same(decisive_yeas(("any", x, y), (3, 3)), (0, 1))
        self.same(decisive_yeas(("any", y, x), (3, 3)), (0, 1))
        self.same(decisive_absences(("all", x, y), (3, 3)), (2, 0))
        self.same(decisive_absences(("all", y, x), (3, 3)), (2, 0))

    def test_sums(self):
        rule = ("all", ("any", ("yeas", 0, 2), ("yeas", 1, 1)), ("all", ("yeas", 3, 3), ("yeas", 2, 1)))
        self.same(decisive_yeas(rule, (3, 3, 3, 3)), (0, 1, 1, 3))
        self.same(least_yeas(rule, (3, 3, 3, 3)), 5)
        rule = ("any", ("all", ("yeas", 0, 2), ("yeas", 1, 1)), ("any", ("yeas", 3, 3), ("yeas", 2, 1)))
        self.same(decisive_absences(rule, (3, 3, 3, 3)), (2, 0, 3, 1))
        self.same(least_absences(rule, (3, 3, 3, 3)), 6)

    def test_greatest_sizes(self):
        rule = ("any", ("all", ("majority", 0, "voting"), ("majority", 1, "seats")), ("quorum", 2, 12))
        self.same(decisive_yeas(rule, (12, 12, 12)), (0, 0, 0))
        self.same(decisive_absences(rule, (12, 12, 12)), (0, 6, 1))


if __name__ == "__main__":
    unittest.main()
