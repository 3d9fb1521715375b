"""What several tests need."""

import itertools
import unittest


class Case(unittest.TestCase):
    def same(self, actual, expected):
        """Equal values of equal kinds at every depth: True is not 1, a tuple is not a list."""
        self.assertEqual(repr(actual), repr(expected))


SIMPLE_RULES = (
    ("yeas", 0, 2),
    ("yeas", 0, ("parameter", 1)),
    ("majority", 0, "seats"),
    ("majority", 0, "attending"),
    ("majority", 0, "voting"),
    ("fraction", 0, 2, 3, "seats"),
    ("fraction", 0, 2, 3, "attending"),
    ("fraction", 0, 2, 3, "voting"),
    ("quorum", 0, 2),
    ("quorum", 0, ("parameter", 0)),
)


def in_chamber(rule, chamber):
    """The same simple rule for another chamber."""
    return (rule[0], chamber) + rule[2:]


def all_counts(size):
    """All counts of a chamber of this size, in the order of the triples."""
    numbers = range(size + 1)
    triples = [(y, n, p) for y in numbers for n in numbers for p in numbers]
    return [triple for triple in triples if sum(triple) <= size]


def roll_call_of(counts, size):
    """A roll call of so many members with these counts."""
    yeas, nays, present = counts
    return ("Y" * yeas + "N" * nays + "P" * present).ljust(size, "-")


KEEP = ("keep",)


def remove(line):
    return ("remove", line)


def insert(line):
    return ("insert", line)


def short_scripts(longest, lines=("a", "b")):
    """All scripts of at most so many steps, with these lines."""
    steps = [KEEP, *map(remove, lines), *map(insert, lines)]
    for many in range(longest + 1):
        yield from itertools.product(steps, repeat=many)
