"""Points 7, 182, 187, 201 to 203, 260 and 261: certificates, and the impact of a new entry."""

import itertools
import random
import unittest

import reference
from gazette.certificates import certificate, closure, impact, verify_certificate
from gazette.circles import determined
from gazette.errors import CircularRecord, GazetteError, NotDetermined
from gazette.validity import validity
from samples import KINDS, some_charter, some_record, some_safe_charter
from support import Case, chain, charter_of, entry, entry_type

SINGLE = charter_of(entry_type(annulled=((0, 2),)))
# Entry 3 annuls entry 1, which annuls entry 0; entry 2 stands alone.
RULINGS = (entry(), entry(effect=("annul", 0)), entry(), entry(effect=("annul", 1)))
HASTY = charter_of(entry_type(basis=((0, 0),), annulled=((0, 2),)), entry_type())
CURED = charter_of(entry_type(basis=((0, 0),), cured=((0, 1),)), entry_type())


class ClosureTest(Case):
    def test_forward(self):
        self.same([closure(SINGLE, RULINGS, number) for number in range(4)], [(0, 1, 3), (1, 3), (2,), (3,)])

    def test_backward(self):
        charter = charter_of(entry_type(basis=((1, 2),)), entry_type(basis=((2, 0),)), entry_type())
        record = (
            entry(2), entry(1, 0, basis=(None,)), entry(2, 1), entry(0, 2, basis=(None,)), entry(1, 2, basis=(None,)),
        )
        self.same([closure(charter, record, number) for number in range(5)], [
            (0,), (0, 1), (2,), (0, 1, 3), (0, 2, 4)])

    def test_a_circle(self):
        record = (entry(0, 0, basis=(None,)), entry(1), entry(0, 0, basis=(None,), effect=("annul", 0)))
        self.same([closure(HASTY, record, number) for number in range(3)], [(0, 2), (1,), (0, 2)])

    def test_40_entries(self):
        record = chain(range(40))
        self.same(closure(SINGLE, record, 0), tuple(range(40)))
        self.same(closure(SINGLE, record, 38), (38, 39))

    def test_against_what_can_be_reached(self):
        numbers = random.Random(260)
        for _ in range(200):
            charter = some_charter(numbers, numbers.randint(1, 5))
            record = some_record(numbers, charter, 10)
            needs = reference.graph(charter, record)
            for number in range(10):
                self.same(closure(charter, record, number), tuple(sorted(reference.reached(needs, number))))


class CertificateTest(Case):
    def refused(self, charter, record, number):
        with self.assertRaises(GazetteError) as caught:
            certificate(charter, record, number)
        self.assertIs(caught.exception.__class__, NotDetermined)
        self.same(caught.exception.number, number)

    def test_certificates(self):
        self.same(certificate(SINGLE, RULINGS, 0), ((0, True), (1, False), (3, True)))
        self.same(certificate(SINGLE, RULINGS, 2), ((2, True),))
        self.same(certificate(SINGLE, RULINGS, 3), ((3, True),))

    def test_an_entry_that_is_not_determined(self):
        record = (
            entry(0, 0, basis=(None,)), entry(1), entry(0, 0, basis=(None,), effect=("annul", 0)),
            entry(0, 1, basis=(None,)),
        )
        for number in (0, 2, 3):
            self.refused(HASTY, record, number)
        self.same(certificate(HASTY, record, 1), ((1, True),))

    def test_no_certificate_with_fewer_pairs_is_accepted(self):
        numbers = random.Random(261)
        sizes = set()
        for _ in range(150):
            charter = some_charter(numbers, numbers.randint(1, 4), numbers.choice((KINDS, ("none",))))
            record = some_record(numbers, charter, 6)
            statuses = determined(charter, record)
            for number, status in enumerate(statuses):
                if status is None:
                    self.refused(charter, record, number)
                else:
                    pairs = certificate(charter, record, number)
                    sizes.add(len(pairs))
                    self.same(pairs, tuple((one, statuses[one]) for one in closure(charter, record, number)))
                    self.assertTrue(verify_certificate(charter, record, number, pairs))
                    for many in range(len(pairs)):
                        for fewer in itertools.combinations(pairs, many):
                            self.assertFalse(verify_certificate(charter, record, number, fewer))
        self.assertGreater(len(sizes), 4)


class VerifyTest(Case):
    def check(self, expected, pairs, number=0, charter=SINGLE, record=RULINGS):
        self.same(verify_certificate(charter, record, number, pairs), expected)

    def test_accepted(self):
        self.check(True, ((0, True), (1, False), (3, True)))
        self.check(True, ((0, True), (1, False), (3, True)), number=1)
        self.check(True, ((0, True), (1, False), (3, True)), number=3)
        self.check(True, ((0, True), (1, False), (2, True), (3, True)))
        self.check(True, ((2, True), (3, True)), number=3)

    def test_a_pair_left_out(self):
        self.check(False, ((0, True), (1, False)))
        self.check(False, ((0, True), (3, True)))
        self.check(False, ((0, False), (1, True)))
        self.check(False, ((0, True),))

    def test_an_entry_that_is_not_listed(self):
        self.check(False, ())
        self.check(False, ((1, False), (3, True)))
        self.check(False, ((0, True), (1, False), (3, True)), number=2)

    def test_numbers_that_do_not_ascend(self):
        self.check(False, ((1, False), (0, True), (3, True)))
        self.check(False, ((0, True), (3, True), (1, False)))

    def test_a_pair_that_occurs_twice(self):
        self.check(False, ((0, True), (1, False), (1, False), (3, True)))
        self.check(False, ((3, True), (3, True)), number=3)
        self.check(False, ((0, True), (0, False), (1, False), (3, True)))

    def test_one_status_turned(self):
        pairs = ((0, True), (1, False), (3, True))
        for place in range(3):
            number, status = pairs[place]
            self.check(False, pairs[:place] + ((number, not status),) + pairs[place + 1:])
        self.check(False, ((2, False),), number=2)
        self.check(False, ((2, False), (3, True)), number=3)

    def test_entries_that_are_not_listed_have_the_status_false(self):
        # Entry 1 cites entry 0 although its type does not name the type of entry 0, so entry 0 need not be listed.
        charter = charter_of(entry_type(basis=((1, 0),)), entry_type(), entry_type())
        record = (entry(2), entry(0, 0, basis=(0,)))
        self.check(True, ((1, False),), number=1, charter=charter, record=record)
        self.check(True, ((0, True), (1, False)), number=1, charter=charter, record=record)
        self.check(False, ((0, False), (1, False)), number=1, charter=charter, record=record)

    def test_in_a_record_with_circles(self):
        record = (
            entry(0, 0, "---", (None,)), entry(0, 0, basis=(0,), effect=("cure", 0)), entry(1),
        )
        self.same(determined(CURED, record), (None, None, True))
        self.check(True, ((2, True),), number=2, charter=CURED, record=record)
        for one, other in itertools.product((True, False), repeat=2):
            for number in range(2):
                self.check(one == other, ((0, one), (1, other)), number=number, charter=CURED, record=record)
        self.check(False, ((0, True),), charter=CURED, record=record)

    def test_a_circle_without_consistent_statuses(self):
        record = (entry(0, 0, basis=(None,)), entry(0, 0, basis=(0,), effect=("annul", 0)))
        for one, other in itertools.product((True, False), repeat=2):
            self.check(False, ((0, one), (1, other)), charter=HASTY, record=record)

    def test_40_pairs(self):
        record = chain(range(40))
        pairs = tuple(enumerate((False, True) * 20))
        self.check(True, pairs, record=record)
        self.check(False, pairs[:-1] + ((39, False),), record=record)

    def test_all_certificates_of_small_records(self):
        numbers = random.Random(4)
        accepted = 0
        for _ in range(60):
            charter = some_charter(numbers, numbers.randint(1, 4), numbers.choice((KINDS, ("none",))))
            record = some_record(numbers, charter, 4)
            needs = reference.graph(charter, record)
            for told in itertools.product((None, True, False), repeat=4):
                pairs = tuple((number, status) for number, status in enumerate(told) if status is not None)
                statuses = [status is True for status in told]
                is_complete = all(told[other] is not None for number, _ in pairs for other in needs[number])
                is_right = all(reference.valid(charter, record, statuses, number) == status for number, status in pairs)
                for number in range(4):
                    expected = told[number] is not None and is_complete and is_right
                    self.check(expected, pairs, number, charter, record)
                    accepted += expected
                    if expected and None not in determined(charter, record):
                        self.assertEqual(determined(charter, record)[number], told[number])
        self.assertGreater(accepted, 500)


class ImpactTest(Case):
    def test_on_a_chain_of_annulments(self):
        self.same(impact(SINGLE, RULINGS, 0, "annul", 3), (0, 1, 3, 4))
        self.same(impact(SINGLE, RULINGS, 0, "annul", 2), (2, 4))
        self.same(impact(SINGLE, RULINGS, 0, "annul", 1), (4,))

    def test_an_action_that_is_not_named(self):
        for action in ("cure", "ratify"):
            self.same(impact(SINGLE, RULINGS, 0, action, 3), (4,))

    def test_too_late(self):
        record = RULINGS + (entry(0, 3),)
        self.same(impact(SINGLE, record, 0, "annul", 3), (5,))
        self.same(impact(SINGLE, record, 0, "annul", 4), (4, 5))

    def test_an_entry_that_becomes_valid(self):
        charter = charter_of(entry_type(cured=((1, 2),)), entry_type())
        record = (entry(0, 0, "NNN"), entry(0, 1))
        self.same(impact(charter, record, 1, "cure", 0), (0, 2))
        self.same(impact(charter, record, 0, "cure", 0), (2,))

    def test_a_type_that_has_to_be_ratified(self):
        charter = charter_of(
            entry_type(annulled=((1, 2),)), entry_type(basis=((0, 3),), ratified=((2, 1), (3, 2))),
            entry_type(basis=((3, 3),)), entry_type(),
        )
        self.same(impact(charter, (entry(),), 1, "annul", 0), (0, 1, 2))
        self.same(impact(charter, (entry(), entry()), 1, "cure", 0), (2, 3))

    def test_ratifying(self):
        charter = charter_of(entry_type(ratified=((1, 2),)), entry_type())
        self.same(impact(charter, (entry(0, 3), entry(0, 5)), 1, "ratify", 0), (0, 2))
        self.same(impact(charter, (entry(0, 3), entry(0, 6)), 1, "ratify", 0), (2,))

    def test_a_new_entry_that_is_not_valid(self):
        # The premier has resigned, so nobody passes the rule of type 1.
        charter = charter_of(entry_type("appointment", ("yeas", 0, 1), basis=((0, 0),)), entry_type(basis=((0, 0),)))
        record = (entry(0, 0, basis=(None,), payload=("appointment", None)),)
        self.same(validity(charter, record), (True,))
        self.same(impact(charter, record, 1, "annul", 0), ())
        self.same(impact(charter, record, 0, "annul", 0), (1,))

    def test_the_sitting_of_the_last_entry(self):
        charter = charter_of(entry_type(annulled=((1, 2),)), entry_type(basis=((0, 3),)))
        record = (entry(0, 5), entry(0, 7))
        self.same(impact(charter, record, 1, "annul", 0), (0, 2))
        self.same(impact(charter, record + (entry(0, 8),), 1, "annul", 0), (3,))

    def test_a_record_of_40_entries(self):
        record = chain(range(40))
        self.same(impact(SINGLE, record, 0, "annul", 39), tuple(range(41)))
        self.same(impact(SINGLE, record, 0, "annul", 38), (40,))
        ratified = charter_of(entry_type(annulled=((1, 2),)), entry_type(ratified=((2, 1),)), entry_type())
        self.same(impact(ratified, (entry(),) * 40, 1, "annul", 39), (39, 40, 41))

    def circular(self, expected, *arguments):
        with self.assertRaises(GazetteError) as caught:
            impact(*arguments)
        self.assertIs(caught.exception.__class__, CircularRecord)
        self.same(caught.exception.circle, expected)

    def test_one_that_makes_a_circle(self):
        record = (entry(0, 0, basis=(None,)), entry(1, 1), entry(0, 3, basis=(None,)))
        self.circular((2, 3), HASTY, record, 0, "annul", 2)
        self.same(impact(HASTY, record, 0, "annul", 0), (3,))
        self.same(impact(HASTY, record, 1, "annul", 2), (3,))

    def test_a_record_that_has_a_circle_already(self):
        slow = charter_of(
            entry_type(basis=((0, 2),), annulled=((0, 1),)), entry_type(basis=((1, 0),), annulled=((1, 1),)),
        )
        record = chain(range(3), (None,)) + (entry(1, 2, basis=(None,)),)
        self.circular((0, 1, 2), slow, record, 1, "cure", 3)
        # The record with the new entry has a circle with fewer entries than the record.
        self.circular((3, 4), slow, record, 1, "annul", 3)

    def test_against_all_statuses(self):
        numbers = random.Random(6)
        sizes = {}
        for _ in range(150):
            charter = some_safe_charter(numbers, numbers.randint(1, 4), numbers.choice((KINDS, ("none",))))
            record = some_record(numbers, charter, 4)
            kind, action, target = numbers.randrange(len(charter[9])), numbers.choice(("annul", "cure", "ratify")), (
                numbers.randrange(4))
            _, _, basis, _, _, ratified = charter[9][kind]
            longer = record + (entry(kind, record[-1][1], "YYY", (None,) * len(basis), (action, target)),)
            for other, _ in ratified[:1]:
                basis = (None,) * len(charter[9][other][2])
                longer += (entry(other, record[-1][1], "YYY", basis, ("ratify", 4)),)
            before = reference.all_consistent(charter, record)[0] + (False, False)
            after = reference.all_consistent(charter, longer)[0]
            expected = tuple(number for number, status in enumerate(after) if before[number] != status)
            self.same(impact(charter, record, kind, action, target), expected)
            sizes[len(expected)] = sizes.get(len(expected), 0) + 1
        self.assertGreater(len(sizes), 2)


if __name__ == "__main__":
    unittest.main()
