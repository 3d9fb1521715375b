"""Points 185 and 206: pruned records."""

import random
import unittest

from gazette.assignments import assignments
from gazette.errors import TooManyOpen
from gazette.pruning import prune
from gazette.records import check_record
from gazette.states import state_after
from gazette.validity import is_consistent
from samples import KINDS, some_charter, some_record
from support import Case, charter_of, entry, entry_type

CHARTER = charter_of(entry_type(basis=((0, 0), (1, 2)), annulled=((1, 3),)), entry_type(), entry_type())


def based(sitting, *basis, effect=None):
    return entry(0, sitting, basis=basis, effect=effect)


class PruneTest(Case):
    def pruned(self, record, statuses, *expected):
        self.same(prune(CHARTER, record, statuses), expected)

    def test_nothing_and_everything(self):
        record = (based(0, None, None), entry(1), based(2, 0, 1, effect=("annul", 1)), entry(1, 3, effect=("annul", 2)))
        self.pruned((), ())
        self.pruned(record, (False,) * 4)
        self.pruned(record, (True,) * 4, *record)

    def test_entries_are_left_as_they_are(self):
        record = (
            entry(2, 7, "N-P", payload=("bill", ("a",), (), ())), entry(1, 7, "---"), entry(2, 9, "P-N"),
        )
        self.pruned(record, (True, False, True), record[0], record[2])

    def test_references_get_new_numbers(self):
        record = (entry(2), based(0, None, None), entry(1), entry(2), based(2, 1, 2, effect=("cure", 2)))
        self.pruned(record, (False, True, True, False, True), record[1], record[2], based(2, 0, 1, effect=("cure", 1)))
        self.pruned(record, (True, True, True, False, True), *record[:3], based(2, 1, 2, effect=("cure", 2)))

    def test_references_to_entries_that_are_not_assigned_valid(self):
        record = (based(0, None, None), entry(1), based(2, 0, 1, effect=("annul", 1)))
        self.pruned(record, (True, False, True), record[0], based(2, 0, None))
        self.pruned(record, (False, True, True), record[1], based(2, None, 0, effect=("annul", 0)))
        self.pruned(record, (False, False, True), based(2, None, None))

    def test_items_that_are_not_good(self):
        record = (entry(1), based(0, None, None), based(1, 1, 0), based(2, 0, 1), based(2, 1, 0))
        self.pruned(
            record, (True,) * 5, record[0], record[1], based(1, 1, None), based(2, None, None), based(2, 1, 0))

    def test_effects_on_a_target_of_a_type_that_does_not_name_them(self):
        record = (entry(2), entry(2), entry(2, 0, effect=("ratify", 1)), based(0, None, None, effect=("annul", 1)))
        self.pruned(
            record, (False, True, True, True), record[1], entry(2, 0, effect=("ratify", 0)),
            based(0, None, None, effect=("annul", 0)))

    def test_effects_that_come_too_late(self):
        record = (entry(2), based(0, None, None), entry(1, 4, effect=("annul", 1)))
        self.pruned(record, (False, True, True), record[1], entry(1, 4, effect=("annul", 0)))

    def test_under_consistent_statuses_of_safe_and_unsafe_charters(self):
        numbers = random.Random(206)
        shorter, open_ones = 0, 0
        for _ in range(500):
            kinds = numbers.choice((KINDS, ("none", "seats"), ("none",)))
            charter = some_charter(numbers, numbers.randint(1, 5), kinds, delays=1, deadlines=3)
            record = some_record(numbers, charter, 9)
            try:
                found = assignments(charter, record)
            except TooManyOpen:
                continue
            open_ones += len(found) > 1
            for statuses in found:
                kept = prune(charter, record, statuses)
                shorter += len(kept) < 9
                self.assertEqual(len(kept), statuses.count(True))
                self.assertIsNone(check_record(charter, kept))
                self.assertTrue(is_consistent(charter, kept, (True,) * len(kept)))
                self.same(state_after(charter, kept, (True,) * len(kept)), state_after(charter, record, statuses))
        self.assertGreater(shorter, 100)
        self.assertGreater(open_ones, 3)

    def test_under_any_statuses_a_record_is_left(self):
        numbers = random.Random(5)
        for _ in range(200):
            charter = some_charter(numbers, numbers.randint(1, 4), KINDS)
            record = some_record(numbers, charter, 10)
            statuses = tuple(numbers.random() < 0.6 for _ in record)
            kept = prune(charter, record, statuses)
            self.assertIsNone(check_record(charter, kept))
            self.same([one[:3] + one[5:] for one in kept], [
                one[:3] + one[5:] for one, status in zip(record, statuses) if status])


if __name__ == "__main__":
    unittest.main()
