"""Points 185, 187 and 188: what makes entries valid under statuses, and the objections to them."""

import random
import unittest

import reference
from gazette.entries import cited, is_procedural, is_substantive, objections, revised, valid_under
from samples import KINDS, some_charter, some_record
from support import Case, charter_of, entry, entry_type

BASIS, ROLL_CALL, PAYLOAD, RATIFICATION = ("basis", 0), ("roll call",), ("payload",), ("ratification",)
# Type 0: appointments, which are based on type 1 and can be annulled and cured by it.
CHARTER = charter_of(
    entry_type("appointment", ("yeas", 0, 2), basis=((1, 2), (0, 0)), annulled=((1, 3),), cured=((1, 4),)),
    entry_type(),
)
DECREES = charter_of(entry_type(ratified=((1, 2), (2, 4))), entry_type(), entry_type())


class EntriesCase(Case):
    charter = CHARTER

    def told(self, record, statuses, number, *expected):
        """The objections to an entry, and what follows from them."""
        self.same(objections(self.charter, record, statuses, number), expected)
        self.same(valid_under(self.charter, record, statuses, number), expected == ())
        self.same(is_substantive(self.charter, record, statuses, number), PAYLOAD not in expected)


class CitedTest(EntriesCase):
    record = (
        entry(1, 0), entry(1, 1), entry(0, 3, basis=(1, None)), entry(0, 3, basis=(1, 2)), entry(0, 3, basis=(2, 3)),
    )

    def cites(self, number, *expected, statuses=(True,) * 5, record=record):
        self.same(cited(CHARTER, record, statuses, number), expected)

    def test_good_items(self):
        self.cites(0)
        self.cites(2, 1)
        self.cites(3, 1, 2)

    def test_items_of_another_type(self):
        self.cites(4, 3)

    def test_items_that_are_not_assigned_valid(self):
        self.cites(3, 2, statuses=(True, False, True, True, True))
        self.cites(3, 1, statuses=(True, True, False, True, False))
        self.cites(3, statuses=(False,) * 5)

    def test_items_that_are_too_young(self):
        record = (entry(1, 1), entry(0, 1, basis=(None, None)), entry(0, 2, basis=(0, 1)), entry(0, 3, basis=(0, 2)))
        self.cites(2, 1, statuses=(True,) * 4, record=record)
        self.cites(3, 0, 2, statuses=(True,) * 4, record=record)

    def test_the_order_of_the_basis(self):
        record = (entry(0, 0, basis=(None, None)), entry(1, 0), entry(0, 3, basis=(1, 0)))
        self.cites(2, 1, 0, statuses=(True,) * 3, record=record)


class ProceduralTest(EntriesCase):
    def check(self, expected, record, number, statuses=None):
        statuses = (True,) * len(record) if statuses is None else statuses
        self.same(is_procedural(CHARTER, record, statuses, number), expected)

    def test_nothing_but_none(self):
        self.check(True, (entry(0, 0, basis=(None, None)),), 0)

    def test_roll_calls(self):
        for roll_call, expected in (("YY-", True), ("Y-Y", True), ("Y--", False), ("YNN", False), ("---", False)):
            self.check(expected, (entry(0, 0, roll_call, (None, None)),), 0)

    def test_each_item_has_to_be_good(self):
        record = (entry(1), entry(0, 2, basis=(0, None)), entry(0, 2, basis=(0, 1)))
        self.check(True, record, 2)
        self.check(False, record, 2, (True, False, True))
        self.check(False, record, 2, (False, True, True))
        self.check(True, record, 2, (True, True, False))

    def test_the_observed_state(self):
        # The premier votes alone on type 1.
        charter = charter_of(entry_type("appointment", basis=((0, 0),)), entry_type(basis=((0, 1),)))
        named = entry(0, 0, basis=(None,), payload=("appointment", 2))
        for sitting, roll_call, statuses, expected in (
            (1, "--Y", (True, True), True), (1, "Y--", (True, True), False), (0, "Y--", (True, True), True),
            (0, "--Y", (True, True), False), (1, "Y--", (False, True), True), (1, "--Y", (False, True), False),
        ):
            record = (named, entry(1, sitting, roll_call, (None,)))
            self.same(is_procedural(charter, record, statuses, 1), expected)

    def test_the_payload_and_effects_make_no_difference(self):
        record = (
            entry(0, 0, basis=(None, None), payload=("appointment", 0)), entry(1, 0, effect=("annul", 0)),
            entry(0, 0, "Y--", (None, None)), entry(1, 0, effect=("cure", 2)),
        )
        self.check(True, record, 0)
        self.check(False, record, 2)


class SubstantiveTest(EntriesCase):
    def test_the_observed_state(self):
        named = entry(0, 0, basis=(None, None), payload=("appointment", 1))
        for statuses, expected in (((True, True), False), ((False, True), True)):
            self.same(is_substantive(CHARTER, (named, named), statuses, 1), expected)

    def test_cited_payloads(self):
        kinds = (
            entry_type("bill", basis=((0, 0),)), entry_type("report", basis=((0, 0), (2, 1))), entry_type("bill"),
        )
        charter = charter_of(*kinds)
        one, other = ("bill", ("a",), (), ()), ("bill", ("a",), (((0, ("a",), ()), "YYY"),), (0,))
        record = (
            entry(0, 0, basis=(None,), payload=one), entry(2, 0, payload=other),
            entry(1, 1, basis=(0, 1), payload=("report", ("a",), ((0, ("a",), ()),))),
        )
        for statuses, expected in (
            ((True, True, True), True), ((True, False, True), False), ((False, True, True), False),
        ):
            self.same(is_substantive(charter, record, statuses, 2), expected)
        younger = record[:2] + (entry(1, 0, basis=(0, 1), payload=record[2][5]),)
        self.same(is_substantive(charter, younger, (True,) * 3, 2), False)

    def test_cited_payloads_in_the_order_of_the_basis(self):
        # Type 1 cites three bills; only the first two of them count.
        charter = charter_of(*[entry_type("bill")] * 3, entry_type("report", basis=((2, 0), (0, 0), (1, 0))))
        record = tuple(entry(number, payload=("bill", (line,), (), ())) for number, line in enumerate("aba")) + (
            entry(3, basis=(2, 0, 1), payload=("report", ("a",), ())),
            entry(3, basis=(None, 0, 1), payload=("report", ("a",), ())),
        )
        self.same(is_substantive(charter, record, (True,) * 5, 3), True)
        self.same(is_substantive(charter, record, (True,) * 5, 4), False)


class CureTest(EntriesCase):
    def test_a_cure_of_an_entry_that_is_not_procedurally_valid(self):
        record = (entry(1), entry(0, 1, "---", basis=(0, 0)), entry(1, 5, effect=("cure", 1)))
        self.told(record, (True, True, False), 1, BASIS, ("basis", 1), ROLL_CALL)
        self.told(record, (True, True, True), 1)
        self.same(is_procedural(CHARTER, record, (True,) * 3, 1), False)

    def test_a_cure_that_comes_too_late_or_is_none(self):
        broken = entry(0, 1, "---", basis=(None, None))
        for late in (
            entry(1, 6, effect=("cure", 0)), entry(1, 5), entry(0, 5, basis=(None, None), effect=("cure", 0)),
            entry(1, 5, effect=("ratify", 0)),
        ):
            self.told((broken, late), (True, True), 0, ROLL_CALL)

    def test_a_cure_of_one_whose_payload_is_not_correct(self):
        record = (
            entry(0, 0, "---", basis=(None, None), payload=("appointment", 0)), entry(1, 0, effect=("cure", 0)),
        )
        self.told(record, (True, True), 0, PAYLOAD)
        self.told(record, (True, False), 0, PAYLOAD, ROLL_CALL)

    def test_a_cure_that_is_not_needed(self):
        record = (entry(0, 0, basis=(None, None)), entry(1, 0, effect=("cure", 0)))
        self.told(record, (True, True), 0)

    def test_one_of_several_cures(self):
        record = (entry(0, 0, "---", basis=(None, None)),) + (entry(1, 0, effect=("cure", 0)),) * 2
        self.told(record, (False, False, True), 0)
        self.told(record, (False, True, False), 0)
        self.told(record, (False, False, False), 0, ROLL_CALL)


class AnnulmentTest(EntriesCase):
    record = (
        entry(0, 0, basis=(None, None)), entry(1, 3, effect=("annul", 0)), entry(1, 3, effect=("annul", 0)),
        entry(1, 4, effect=("annul", 0)), entry(0, 4, basis=(None, None), effect=("annul", 0)),
    )

    def test_annulments(self):
        self.told(self.record, (True,) * 5, 0, ("annulled", 1), ("annulled", 2))
        self.told(self.record, (True, False, True, True, True), 0, ("annulled", 2))

    def test_an_annulment_by_an_entry_that_is_not_valid(self):
        self.told(self.record, (True, False, False, True, True), 0)

    def test_a_cure_does_not_help(self):
        record = self.record[:2] + (entry(1, 3, effect=("cure", 0)),)
        self.told(record, (True,) * 3, 0, ("annulled", 1))


class RatificationTest(EntriesCase):
    charter = DECREES

    def test_a_type_that_has_to_be_ratified(self):
        self.told((entry(),), (True,), 0, RATIFICATION)
        self.told((entry(1),), (True,), 0)

    def test_ratified_in_time_and_too_late(self):
        for number, sitting, expected in ((1, 5, ()), (1, 6, (RATIFICATION,)), (2, 7, ()), (2, 8, (RATIFICATION,))):
            record = (entry(0, 3), entry(number, sitting, effect=("ratify", 0)))
            self.told(record, (True, True), 0, *expected)
            self.told(record, (True, False), 0, RATIFICATION)

    def test_a_type_that_is_not_named_or_another_action(self):
        self.told((entry(), entry(0, effect=("ratify", 0))), (True, True), 0, RATIFICATION)
        self.told((entry(), entry(1, effect=("cure", 0))), (True, True), 0, RATIFICATION)
        self.told((entry(), entry(), entry(1, effect=("ratify", 1))), (True,) * 3, 0, RATIFICATION)

    def test_one_of_several_is_enough(self):
        record = (entry(),) + (entry(1, effect=("ratify", 0)), entry(2, effect=("ratify", 0)))
        for statuses, expected in (
            ((True, True, True), ()), ((True, False, True), ()), ((True, True, False), ()),
            ((True, False, False), (RATIFICATION,)),
        ):
            self.told(record, statuses, 0, *expected)


class ObjectionsTest(EntriesCase):
    charter = charter_of(
        entry_type("appointment", ("yeas", 0, 2), ((0, 0), (1, 1), (2, 1)), ((1, 9),), ((1, 9),), ((2, 9),)),
        entry_type(), entry_type(),
    )
    record = (
        entry(1), entry(2), entry(0, 0, "---", (None, 0, 1), None, ("appointment", 0)),
        entry(1, 1, effect=("annul", 2)), entry(1, 1, effect=("cure", 2)), entry(2, 1, effect=("ratify", 2)),
        entry(1, 2, effect=("annul", 2)),
    )

    def test_all_of_them_in_their_order(self):
        self.told(
            self.record, (True, True, True, True, False, False, True), 2, PAYLOAD, ("basis", 1), ("basis", 2),
            ROLL_CALL, RATIFICATION, ("annulled", 3), ("annulled", 6),
        )

    def test_without_those_that_a_cure_takes_away(self):
        self.told(self.record, (True,) * 7, 2, PAYLOAD, ("annulled", 3), ("annulled", 6))
        self.told(self.record, (True,) * 5 + (False,) * 2, 2, PAYLOAD, RATIFICATION, ("annulled", 3))

    def test_its_own_status_makes_no_difference(self):
        for status in (True, False):
            statuses = (True, True, status)
            self.told(self.record[:3], statuses, 2, PAYLOAD, ("basis", 1), ("basis", 2), ROLL_CALL, RATIFICATION)

    def test_no_objections(self):
        self.told(self.record, (True,) * 7, 0)


class RevisedTest(EntriesCase):
    def test_all_statuses_at_once(self):
        charter = charter_of(entry_type(annulled=((0, 2),)))
        record = (entry(), entry(effect=("annul", 0)), entry(effect=("annul", 1)))
        self.same(revised(charter, record, (False,) * 3), (True,) * 3)
        self.same(revised(charter, record, (True,) * 3), (False, False, True))
        self.same(revised(charter, record, (False, False, True)), (True, False, True))

    def test_the_empty_record(self):
        self.same(revised(CHARTER, (), ()), ())

    def test_against_the_words_of_the_document(self):
        numbers = random.Random(187)
        kinds = {True: 0, False: 0}
        for _ in range(400):
            payloads = numbers.choice((KINDS, ("none", "seats"), ("none",)))
            charter = some_charter(numbers, numbers.randint(1, 5), payloads)
            record = some_record(numbers, charter, 10)
            statuses = tuple(numbers.random() < 0.7 for _ in record)
            expected = [reference.valid(charter, record, statuses, number) for number in range(10)]
            self.same(revised(charter, record, statuses), tuple(expected))
            for number, status in enumerate(expected):
                kinds[status] += 1
                self.same(valid_under(charter, record, statuses, number), status)
                self.same(objections(charter, record, statuses, number) == (), status)
        self.assertGreater(min(kinds.values()), 1000)


if __name__ == "__main__":
    unittest.main()
