"""What several tests need."""

import itertools
import unittest


class Case(unittest.TestCase):
    def same(self, actual, expected):
        """Equal values of equal kinds at every depth: True is not 1, a tuple is not a list."""
        self.assertEqual(repr(actual), repr(expected))


SIMPLE_RULES = (
    ("yeas", 0, 2),
    ("yeas", 0, ("parameter", 1)),
    ("majority", 0, "seats"),
    ("majority", 0, "attending"),
    ("majority", 0, "voting"),
    ("fraction", 0, 2, 3, "seats"),
    ("fraction", 0, 2, 3, "attending"),
    ("fraction", 0, 2, 3, "voting"),
    ("quorum", 0, 2),
    ("quorum", 0, ("parameter", 0)),
)


def in_chamber(rule, chamber):
    """The same simple rule for another chamber."""
    return (rule[0], chamber) + rule[2:]


def all_counts(size):
    """All counts of a chamber of this size, in the order of the triples."""
    numbers = range(size + 1)
    triples = [(y, n, p) for y in numbers for n in numbers for p in numbers]
    return [triple for triple in triples if sum(triple) <= size]


def roll_call_of(counts, size):
    """A roll call of so many members with these counts."""
    yeas, nays, present = counts
    return ("Y" * yeas + "N" * nays + "P" * present).ljust(size, "-")


KEEP = ("keep",)


def remove(line):
    return ("remove", line)


def insert(line):
    return ("insert", line)


def short_scripts(longest, lines=("a", "b")):
    """All scripts of at most so many steps, with these lines."""
    steps = [KEEP, *map(remove, lines), *map(insert, lines)]
    for many in range(longest + 1):
        yield from itertools.product(steps, repeat=many)


def small_edits():
    """A few edits with conflicts of all kinds, insertions among them."""
    return (
        (0, (), ("x",)), (0, ("a",), ()), (0, ("a",), ("y",)), (0, ("a", "b"), ()), (1, (), ("x",)), (1, (), ()),
        (1, ("b",), ()), (1, ("b", "c"), ()), (2, (), ("x",)), (2, ("c",), ()),
    )


def compatible_tuples(longest):
    """All compatible tuples of different small edits, each in one order."""
    found = []
    for many in range(longest + 1):
        for edits in itertools.combinations(small_edits(), many):
            clashes = [
                one for one, other in itertools.combinations(edits, 2)
                if one[0] < other[0] + len(other[1]) and other[0] < one[0] + len(one[1])
            ]
            if not clashes:
                found.append(edits)
    return found


def compatible_pairs():
    """Pairs of compatible edits of two chambers, some of them in another order than the texts'."""
    one = compatible_tuples(2)
    other = [edits[::-1] for edits in compatible_tuples(3)]
    return [pair for pair in itertools.product(one, other)][::3]


def all_compromises(first, second):
    """All compromises between compatible edits, by trying all subsets."""
    different = sorted(set(first + second))
    shared = [edit for edit in first if edit in second]
    for many in range(len(different) + 1):
        for edits in itertools.combinations(different, many):
            fits = [
                one[0] >= other[0] + len(other[1]) or other[0] >= one[0] + len(one[1])
                for one, other in itertools.combinations(edits, 2)
            ]
            if all(fits) and all(edit in edits for edit in shared):
                yield edits


def small_trees(most):
    """All budget trees with at most so many nodes."""
    for many in range(most):
        yield from itertools.product(*[range(node + 1) for node in range(many)])


def entry_type(payload="none", rule=("premier",), basis=(), annulled=(), cured=(), ratified=()):
    return (payload, rule, basis, annulled, cured, ratified)


DAILY = (0, (True,) * 7, ())


def charter_of(
    *entry_types, members=3, seats=((0, 1, 2),), parameters=(), statutes=(), tree=(), appropriations=(0,), premier=0,
    petition=(0, 0, 0, 0), calendar=DAILY,
):
    """A charter that is valid as far as its entry types are."""
    return (
        members, seats, parameters, statutes, tree, appropriations, premier, petition, calendar, entry_types,
    )


def entry(number=0, sitting=0, roll_call="YYY", basis=(), effect=None, payload=None):
    """An entry of a record."""
    return (number, sitting, roll_call, basis, effect, payload)


def chain(sittings, basis=(), action="annul"):
    """Entries of type 0 in these sittings, each of which acts on the one before it."""
    effects = [None] + [(action, number) for number in range(len(sittings) - 1)]
    return tuple(entry(0, sitting, basis=basis, effect=effect) for sitting, effect in zip(sittings, effects))
