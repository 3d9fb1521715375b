"""Points 7 and 180 to 182: records, and which entries depend on which."""

import itertools
import random
import unittest

import reference
from gazette.errors import BadEntry, GazetteError, SittingOutOfOrder
from gazette.records import backward, check_record, forward
from samples import KINDS, some_charter, some_record
from support import Case, charter_of, entry, entry_type

# Type 0 is based on types 0 and 1; type 2 has bills.
CHARTER = charter_of(
    entry_type("seats", ("yeas", 0, 2), ((0, 0), (1, 3)), annulled=((1, 2),), cured=((0, 4),), ratified=((2, 1),)),
    entry_type(annulled=((1, 2), (0, 5))),
    entry_type("bill"),
)
GOOD = entry(1, 5)
BAD = {
    "type": entry(3, 5),
    "roll call": entry(1, 5, "YY"),
    "basis": entry(1, 5, basis=(None,)),
    "effect": entry(1, 5, effect=("annul", 40)),
    "payload": entry(1, 5, payload=("appointment", None)),
}
# Each item of an entry, wrong for the reason with the same place.
WRONG = {
    "type": {0: 100}, "roll call": {2: "YYYY"}, "basis": {3: (None, 100)}, "effect": {4: ("cure", 100)},
    "payload": {5: ("petition", ((0, 0),))},
}


class CheckCase(Case):
    def good(self, *record, charter=CHARTER):
        self.same(check_record(charter, record), None)

    def bad(self, number, reason, *record, charter=CHARTER):
        with self.assertRaises(GazetteError) as caught:
            check_record(charter, record)
        self.assertIs(caught.exception.__class__, BadEntry)
        self.same((caught.exception.number, caught.exception.reason), (number, reason))

    def fallen(self, number, *record):
        with self.assertRaises(GazetteError) as caught:
            check_record(CHARTER, record)
        self.assertIs(caught.exception.__class__, SittingOutOfOrder)
        self.same(caught.exception.number, number)


class CheckRecordTest(CheckCase):
    def test_the_empty_record(self):
        self.good()

    def test_a_record_of_40_entries(self):
        self.good(*[GOOD] * 40)
        self.bad(39, "type", *[GOOD] * 39, BAD["type"])
        self.fallen(39, *[GOOD] * 39, entry(1, 4))

    def test_each_reason_alone(self):
        for reason, wrong in BAD.items():
            self.bad(0, reason, wrong)
            self.bad(2, reason, GOOD, GOOD, wrong, GOOD)

    def test_several_reasons_at_once(self):
        fine = [0, 5, "YYY", (None, None), None, None]
        reasons = list(WRONG)
        for many in range(1, 6):
            for chosen in itertools.combinations(reasons, many):
                made = list(fine)
                for reason in chosen:
                    for place, item in WRONG[reason].items():
                        made[place] = item
                # A type that does not exist leaves no basis to compare with, and is the first reason anyway.
                self.bad(0, chosen[0], tuple(made))

    def test_types(self):
        self.good(entry(2, 5))
        for number in (3, 7, 8, 100):
            self.bad(0, "type", entry(number, 5))
        self.bad(0, "type", entry(1), charter=charter_of(entry_type()))

    def test_roll_calls(self):
        self.good(entry(1, 5, "-NP"))
        for roll_call in ("", "YY", "YYYY", "Y" * 12):
            self.bad(0, "roll call", entry(1, 5, roll_call))
        self.good(entry(0, 5, "Y" * 12), charter=charter_of(entry_type(), members=12))

    def test_bases(self):
        self.good(GOOD, entry(0, 5, basis=(None, 0)), entry(0, 5, basis=(1, 0)), entry(0, 5, basis=(0, 1)))
        for basis in ((), (None,), (None, None, None)):
            self.bad(0, "basis", entry(0, 5, basis=basis))
        self.bad(0, "basis", entry(0, 5, basis=(0, None)))
        self.bad(1, "basis", GOOD, entry(0, 5, basis=(None, 1)))
        self.bad(1, "basis", GOOD, entry(0, 5, basis=(0, 2)), GOOD)
        self.bad(1, "basis", GOOD, entry(0, 5, basis=(None, 100)))

    def test_an_item_of_another_type_or_too_young_is_not_bad(self):
        self.good(entry(2, 5), entry(0, 5, basis=(0, 0)))

    def test_effects(self):
        for action in ("annul", "cure", "ratify"):
            self.good(GOOD, entry(1, 5, effect=(action, 0)))
            self.bad(0, "effect", entry(1, 5, effect=(action, 0)))
            self.bad(1, "effect", GOOD, entry(1, 5, effect=(action, 1)), GOOD)
            self.bad(1, "effect", GOOD, entry(1, 5, effect=(action, 100)))
        self.good(entry(0, 5, basis=(None, None)), entry(2, 400, effect=("cure", 0)))

    def test_payloads_of_each_kind(self):
        payloads = {
            "seats": ("seats", ((0, 0, None),)), "parameters": ("parameters", ((0, 1),)),
            "statute": ("statute", ((0, (), ("a",)),)), "bill": ("bill", (), (), ()), "report": ("report", (), ()),
            "budget": ("budget", ((0, 0),)), "payments": ("payments", ((0, 1),)), "appointment": ("appointment", None),
            "petition": ("petition", ((0, 0),)),
        }
        for kind in KINDS:
            named = ((0, 0),) if kind not in ("none", "bill", "report", "petition") else ()
            charter = charter_of(entry_type(kind, basis=named))
            basis = (None,) * len(named)
            self.good(entry(basis=basis), charter=charter)
            for other, payload in payloads.items():
                if other == kind:
                    self.good(entry(basis=basis, payload=payload), charter=charter)
                else:
                    self.bad(0, "payload", entry(basis=basis, payload=payload), charter=charter)

    def test_an_incorrect_payload_is_not_bad(self):
        self.good(entry(0, basis=(None, None), payload=("seats", ((3, 11, 11),))))

    def test_roll_calls_of_amendments(self):
        edit = (0, (), ("a",))
        self.good(entry(2, payload=("bill", (), ((edit, "YYN"), (edit, "---")), (7,))))
        for roll_call in ("", "YY", "YYYY"):
            self.bad(0, "payload", entry(2, payload=("bill", (), ((edit, "YYN"), (edit, roll_call)), ())))
            self.bad(0, "payload", entry(2, payload=("bill", (), ((edit, roll_call), (edit, "YYN")), ())))

    def test_sittings(self):
        self.good(entry(1), entry(1), entry(1, 3), entry(1, 3), entry(1, 400))
        self.fallen(1, entry(1, 1), entry(1))
        self.fallen(2, entry(1, 3), entry(1, 400), entry(1, 399), entry(1, 0))

    def test_the_first_bad_entry_behind_sittings_that_fall(self):
        for reason, wrong in BAD.items():
            self.bad(3, reason, entry(1, 9), GOOD, entry(1, 4), wrong, entry(7, 5))
        self.fallen(1, entry(1, 9), GOOD, entry(1, 4), GOOD)


class BackwardTest(Case):
    def test_a_delay_that_is_just_met_and_just_missed(self):
        record = (entry(1, 4), entry(0, 6, basis=(None, None)), entry(0, 7, basis=(None, None)))
        self.same(backward(CHARTER, record, 1), ())
        self.same(backward(CHARTER, record, 2), (0, 1))

    def test_a_delay_of_0(self):
        record = (entry(0, 4, basis=(None, None)),) * 3
        self.same([backward(CHARTER, record, number) for number in range(3)], [(), (0,), (0, 1)])

    def test_types_that_are_not_named(self):
        record = (entry(0, 0, basis=(None, None)), entry(2, 0), entry(1, 9), entry(2, 12), entry(0, 12, basis=(0, 0)))
        self.same(backward(CHARTER, record, 2), ())
        self.same(backward(CHARTER, record, 4), (0, 2))

    def test_the_basis_of_the_entry_itself_makes_no_difference(self):
        for basis in ((None, None), (0, 1), (1, 0)):
            record = (entry(0, 0, basis=(None, None)), entry(1, 0), entry(0, 3, basis=basis))
            self.same(backward(CHARTER, record, 2), (0, 1))

    def test_later_entries(self):
        record = (entry(0, 0, basis=(None, None)), entry(0, 0, basis=(None, None)), entry(1, 0))
        self.same(backward(CHARTER, record, 0), ())
        self.same(backward(CHARTER, record, 1), (0,))


class ForwardTest(Case):
    def test_a_deadline_that_is_just_met_and_missed_by_one_sitting(self):
        for kind, action, within in ((1, "annul", 2), (0, "cure", 4), (2, "ratify", 1)):
            basis = (None, None) if kind == 0 else ()
            changed = entry(0, 3, basis=(None, None))
            for sitting, expected in ((3, (1,)), (3 + within, (1,)), (4 + within, ())):
                record = (changed, entry(kind, sitting, basis=basis, effect=(action, 0)))
                self.same(forward(CHARTER, record, 0), expected)

    def test_an_effect_of_a_type_that_is_not_named_there(self):
        changed = entry(0, basis=(None, None))
        for kind, action in itertools.product(range(3), ("annul", "cure", "ratify")):
            basis = (None, None) if kind == 0 else ()
            expected = (1,) if (kind, action) in ((1, "annul"), (0, "cure"), (2, "ratify")) else ()
            self.same(forward(CHARTER, (changed, entry(kind, basis=basis, effect=(action, 0))), 0), expected)

    def test_several(self):
        record = (
            entry(0, 0, basis=(None, None)), entry(2, 1, effect=("ratify", 0)), entry(1, 1, effect=("annul", 1)),
            entry(0, 1, basis=(None, None), effect=("cure", 0)), entry(1, 1), entry(1, 2, effect=("annul", 0)),
            entry(2, 2, effect=("ratify", 0)), entry(1, 2, effect=("annul", 5)), entry(1, 2, effect=("annul", 0)),
        )
        self.same([forward(CHARTER, record, number) for number in range(9)], [
            (1, 3, 5, 8), (), (), (), (), (7,), (), (), ()])

    def test_no_effect(self):
        self.same(forward(CHARTER, (entry(1), entry(1)), 0), ())
        self.same(forward(CHARTER, (entry(1),), 0), ())

    def test_both_backward_and_forward(self):
        charter = charter_of(entry_type(basis=((0, 0),), annulled=((0, 2),)))
        record = (entry(basis=(None,)), entry(basis=(None,), effect=("annul", 0)))
        self.same((backward(charter, record, 0), forward(charter, record, 0)), ((), (1,)))
        self.same((backward(charter, record, 1), forward(charter, record, 1)), ((0,), ()))
        record += (entry(0, 2, basis=(None,), effect=("annul", 1)),)
        self.same((backward(charter, record, 1), forward(charter, record, 1)), ((0,), (2,)))


class ReferenceTest(Case):
    def test_against_the_words_of_the_document(self):
        numbers = random.Random(182)
        dependent = 0
        for _ in range(300):
            charter = some_charter(numbers, numbers.randint(1, 5))
            record = some_record(numbers, charter, 12)
            needs = reference.graph(charter, record)
            for number in range(12):
                found = backward(charter, record, number) + forward(charter, record, number)
                self.same(list(found), needs[number])
                dependent += len(found)
        self.assertGreater(dependent, 2000)


if __name__ == "__main__":
    unittest.main()
