"""Points 7, 200, 202 and 204: all consistent statuses."""

import random
import unittest

import reference
from gazette.assignments import assignments
from gazette.circles import determined
from gazette.errors import GazetteError, TooManyOpen
from samples import KINDS, some_charter, some_record
from support import Case, charter_of, entry, entry_type

HASTY = charter_of(entry_type(basis=((0, 0),), annulled=((0, 1),)))
CURED = charter_of(entry_type(basis=((0, 0),), cured=((0, 1),)), entry_type(basis=((0, 0),)))


def pairs(many, first=0):
    """Under CURED: pairs of entries that stand or fall together, without regard to the others."""
    record = []
    for number in range(many):
        here = first + 2 * number
        record += [entry(0, 5 * number, "---", (None,)), entry(0, 5 * number, basis=(here,), effect=("cure", here))]
    return tuple(record)


class AssignmentsTest(Case):
    def refused(self, charter, record, count):
        with self.assertRaises(GazetteError) as caught:
            assignments(charter, record)
        self.assertIs(caught.exception.__class__, TooManyOpen)
        self.same(caught.exception.count, count)

    def test_the_empty_record(self):
        self.same(assignments(HASTY, ()), ((),))

    def test_all_determined(self):
        single = charter_of(entry_type(annulled=((0, 2),)))
        record = (entry(), entry(effect=("annul", 0)), entry(effect=("annul", 1)))
        self.same(assignments(single, record), ((True, False, True),))
        self.same(assignments(single, (entry(),) * 40), ((True,) * 40,))

    def test_no_consistent_statuses(self):
        record = (entry(0, 0, basis=(None,)), entry(0, 0, basis=(0,), effect=("annul", 0)))
        self.same(assignments(HASTY, record), ())

    def test_several_in_their_order(self):
        self.same(assignments(CURED, pairs(1)), ((True, True), (False, False)))
        self.same(assignments(CURED, pairs(2)), (
            (True, True, True, True), (True, True, False, False),
            (False, False, True, True), (False, False, False, False),
        ))

    def test_the_first_difference_counts(self):
        # Of two entries each is annulled by the other one's cure, so exactly one of them is valid.
        charter = charter_of(entry_type(basis=((1, 0),), annulled=((1, 1),)), entry_type(basis=((0, 0),)))
        record = (
            entry(0, 0, basis=(None,)), entry(0, 0, basis=(None,)), entry(1, 0, basis=(1,), effect=("annul", 0)),
            entry(1, 0, basis=(0,), effect=("annul", 1)),
        )
        self.same(assignments(charter, record), ((True, False, False, True), (False, True, True, False)))

    def test_with_determined_entries_between(self):
        record = (entry(1, 0, "---", (None,)), entry(1, 0, basis=(None,))) + pairs(1, first=2) + (
            entry(1, 0, basis=(2,)), entry(1, 0, "---", (None,)),
        )
        self.same(determined(CURED, record), (False, True, None, None, None, None))
        self.same(assignments(CURED, record), (
            (False, True, True, True, True, False), (False, True, False, False, False, False)))

    def test_8_and_9_entries_that_are_not_determined(self):
        found = assignments(CURED, pairs(4))
        self.assertEqual(len(found), 16)
        self.same(found[0], (True,) * 8)
        self.same(found[1], (True,) * 6 + (False,) * 2)
        self.same(found[8], (False,) * 2 + (True,) * 6)
        self.same(found[15], (False,) * 8)
        self.same(found, tuple(sorted(found, reverse=True)))
        self.refused(CURED, pairs(4) + (entry(1, 15, basis=(6,)),), 9)
        self.refused(CURED, pairs(20), 40)

    def test_only_entries_that_are_not_determined_count(self):
        record = (entry(1, 0, basis=(None,)),) * 32 + pairs(4, first=32)
        self.assertEqual(len(assignments(CURED, record)), 16)

    def test_against_all_statuses(self):
        numbers = random.Random(204)
        many = {}
        for _ in range(800):
            charter = some_charter(numbers, numbers.randint(1, 3), numbers.choice((KINDS, ("none",))), deadlines=4)
            record = some_record(numbers, charter, 5)
            found = assignments(charter, record)
            self.same(found, reference.all_consistent(charter, record))
            many[len(found)] = many.get(len(found), 0) + 1
        self.assertGreater(min(many[0], many[1], many[2]), 3)


if __name__ == "__main__":
    unittest.main()
