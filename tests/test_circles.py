"""Points 201 and 202: circles of entries, and entries that are determined."""

import random
import unittest

import reference
from gazette.charters import edges
from gazette.circles import dependency_cycle, determined
from gazette.cycles import verify_cycle
from gazette.records import check_record
from samples import KINDS, some_charter, some_record, some_safe_charter
from support import Case, chain, charter_of, entry, entry_type

# An entry annuls one on which it may be based. Edges: 0 to 0, backward (0) and forward (1).
HASTY = charter_of(entry_type(basis=((0, 0),), annulled=((0, 2),)))
# Edges: 0 to 1 (0), 0 to 2 (1), 0 to 1 (2, 3), 1 to 1 (4), 1 to 2 (5), 2 to 0 (6), 2 to 1 (7).
ROUND = charter_of(
    entry_type(basis=((1, 5), (2, 2)), annulled=((1, 3),), cured=((1, 3),)),
    entry_type(annulled=((1, 2),), cured=((2, 2),)),
    entry_type(basis=((0, 1),), annulled=((1, 3),)),
)


class DependencyCycleTest(Case):
    def circle(self, charter, record, expected, numbers):
        check_record(charter, record)
        self.same(dependency_cycle(charter, record), (expected, numbers))
        self.same(verify_cycle(charter, numbers), True)

    def test_no_circle(self):
        self.same(dependency_cycle(HASTY, ()), None)
        self.same(dependency_cycle(HASTY, (entry(basis=(None,)),)), None)
        self.same(dependency_cycle(HASTY, chain((0, 3, 6), (None,))), None)
        single = charter_of(entry_type(annulled=((0, 2),)))
        record = (entry(), entry(effect=("annul", 0)), entry(effect=("annul", 1)), entry(effect=("annul", 0)))
        self.same(dependency_cycle(single, record), None)

    def test_no_entry_is_a_circle_by_itself(self):
        charter = charter_of(entry_type(basis=((0, 0),), cured=((0, 5),)))
        self.same(dependency_cycle(charter, (entry(basis=(None,)),)), None)
        self.same(dependency_cycle(charter, (entry(basis=(None,)), entry(basis=(0,)))), None)

    def test_a_circle_of_two(self):
        self.circle(HASTY, chain((0, 2), (None,)), (0, 1), (1, 0))
        self.circle(HASTY, chain((0, 3, 5), (None,)), (1, 2), (1, 0))

    def test_a_circle_of_two_along_edges_with_other_numbers(self):
        # Edges: 0 to 1 backward (0), 0 to 0 (1), 0 to 1 cured (2), 1 to 1 (3), 1 to 0 backward (4).
        charter = charter_of(
            entry_type(basis=((1, 4),), annulled=((0, 1),), cured=((1, 5),)), entry_type(basis=((1, 0), (0, 2))),
        )
        record = (entry(0, basis=(None,)), entry(1, 3, basis=(None, None), effect=("cure", 0)))
        self.circle(charter, record, (0, 1), (2, 4))

    def test_a_circle_of_three_and_more(self):
        delayed = charter_of(entry_type(basis=((0, 3),), annulled=((0, 1),)))
        record = chain(range(4), (None,))
        self.circle(delayed, record, (0, 1, 2, 3), (1, 1, 1, 0))
        self.same(dependency_cycle(delayed, record[:3]), None)
        half = charter_of(entry_type(basis=((0, 2),), annulled=((0, 1),)))
        self.circle(half, record[:3], (0, 1, 2), (1, 1, 0))

    def test_several_kinds_of_edges(self):
        record = (
            entry(0, 0, basis=(None, None)), entry(1, 3, effect=("cure", 0)),
            entry(2, 4, basis=(0,), effect=("cure", 1)),
        )
        self.circle(ROUND, record, (0, 1, 2), (3, 5, 6))

    def test_several_with_the_fewest_entries(self):
        self.circle(HASTY, chain((0, 1, 2), (None,)), (0, 1), (1, 0))
        self.circle(HASTY, chain((0, 3, 4, 5), (None,)), (1, 2), (1, 0))
        record = chain((0, 1), (None,)) + (entry(0, 1, basis=(None,), effect=("annul", 0)),)
        self.circle(HASTY, record, (0, 1), (1, 0))
        self.circle(HASTY, (record[0], entry(0, 1, basis=(None,)), record[2]), (0, 2), (1, 0))

    def test_the_first_one_as_a_tuple(self):
        # Two circles of three entries that begin with entry 0; entry 2 comes before entry 3.
        delayed = charter_of(entry_type(basis=((0, 2),), annulled=((0, 1),)))
        record = (
            entry(0, 0, basis=(None,)), entry(0, 1, basis=(None,), effect=("annul", 0)),
            entry(0, 1, basis=(None,), effect=("annul", 0)), entry(0, 2, basis=(None,), effect=("annul", 2)),
            entry(0, 2, basis=(None,), effect=("annul", 1)),
        )
        self.circle(delayed, record, (0, 1, 4), (1, 1, 0))

    def test_a_shorter_one_with_higher_numbers(self):
        charter = charter_of(
            entry_type(basis=((0, 2),), annulled=((0, 1),)), entry_type(basis=((1, 0),), annulled=((1, 1),)),
        )
        record = chain(range(3), (None,)) + (
            entry(1, 2, basis=(None,)), entry(1, 2, basis=(None,), effect=("annul", 3)),
        )
        self.circle(charter, record, (3, 4), (3, 2))

    def test_the_whole_record_of_40_entries(self):
        charter = charter_of(entry_type(basis=((0, 12),), cured=((0, 1),)))
        record = chain([number // 3 for number in range(40)], (None,), "cure")
        # Entry 36 is the first one that is 12 sittings later than any other, and entry 2 the last one that early.
        self.circle(charter, record, tuple(range(2, 37)), (1,) * 34 + (0,))

    def test_against_all_circles(self):
        numbers = random.Random(201)
        lengths = {}
        for _ in range(1500):
            charter = some_charter(numbers, numbers.randint(1, 4), deadlines=3)
            record = some_record(numbers, charter, 9)
            expected = reference.first_circle(reference.graph(charter, record))
            found = dependency_cycle(charter, record)
            self.same(found and found[0], expected)
            if found is not None:
                self.check_edges(charter, record, *found)
                lengths[len(expected)] = lengths.get(len(expected), 0) + 1
        self.assertGreater(lengths[2], 100)
        self.assertGreater(lengths[3], 10)

    def check_edges(self, charter, record, circle, numbers):
        self.assertTrue(verify_cycle(charter, numbers))
        for number, here, needed in zip(numbers, circle, circle[1:] + circle[:1]):
            source, target, kind, _ = edges(charter)[number]
            self.same((source, target), (record[here][0], record[needed][0]))
            if kind == "basis":
                self.assertLess(needed, here)
            else:
                self.same(record[needed][4], (kind, here))

    def test_a_safe_charter_has_no_record_with_a_circle(self):
        numbers = random.Random(2)
        for _ in range(300):
            charter = some_safe_charter(numbers, numbers.randint(1, 4), delays=4)
            self.same(dependency_cycle(charter, some_record(numbers, charter, 12)), None)


class DeterminedTest(Case):
    def test_all_determined(self):
        self.same(determined(HASTY, ()), ())
        self.same(determined(HASTY, chain((0, 3, 6), (None,))), (True, True, True))
        single = charter_of(entry_type(annulled=((0, 2),)))
        record = (entry(), entry(effect=("annul", 0)), entry(effect=("annul", 1)))
        self.same(determined(single, record), (True, False, True))

    def test_none_determined(self):
        self.same(determined(HASTY, chain((0, 1), (None,))), (None, None))

    def test_entries_from_which_a_circle_can_be_reached_and_others(self):
        # Type 1 is based on type 0; type 2 depends on nothing; type 0 is not based on either.
        charter = charter_of(
            entry_type(basis=((0, 0),), annulled=((0, 2), (2, 9))), entry_type(basis=((0, 0), (1, 1))), entry_type(),
        )
        record = (
            entry(1, 0, basis=(None, None)), entry(0, 1, basis=(None,)),
            entry(0, 1, basis=(None,), effect=("annul", 1)), entry(1, 1, basis=(None, None)), entry(2, 2, "N--"),
            entry(1, 2, basis=(None, None), effect=("annul", 1)), entry(2, 3, effect=("annul", 1)),
        )
        self.same(dependency_cycle(charter, record)[0], (1, 2))
        self.same(determined(charter, record), (True, None, None, None, False, None, True))

    def test_a_status_that_rests_on_others(self):
        charter = charter_of(entry_type(basis=((1, 0),), cured=((1, 1),)), entry_type(ratified=((2, 1),)), entry_type())
        record = (
            entry(1), entry(0, basis=(0,)), entry(0, basis=(None,)), entry(1, effect=("cure", 1)),
            entry(2, effect=("ratify", 3)),
        )
        self.same(determined(charter, record), (False, True, True, True, True))
        self.same(determined(charter, record[:4]), (False, False, True, False))

    def test_against_all_consistent_statuses(self):
        numbers = random.Random(202)
        told = {True: 0, False: 0, None: 0}
        for _ in range(600):
            charter = some_charter(numbers, numbers.randint(1, 4), numbers.choice((KINDS, ("none",))))
            record = some_record(numbers, charter, 6)
            needs = reference.graph(charter, record)
            circular = [one for one in range(6) if any(one in reference.reached(needs, other) for other in needs[one])]
            statuses = determined(charter, record)
            for number, status in enumerate(statuses):
                told[status] += 1
                is_open = any(one in circular for one in reference.reached(needs, number))
                self.same(status is None, is_open)
            for consistent in reference.all_consistent(charter, record):
                for known, status in zip(statuses, consistent):
                    self.assertIn(known, (None, status))
        self.assertGreater(min(told.values()), 200)


if __name__ == "__main__":
    unittest.main()
