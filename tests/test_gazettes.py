"""Points 7, 101, 142, 161, 188, 203, 205 to 207, 260, 261, 280 and 281: the class Gazette."""

import inspect
import random
import unittest

import reference
from gazette.certificates import certificate, impact, verify_certificate
from gazette.entries import objections
from gazette.errors import (
    BadAmounts, BadDependency, BadEntry, BadPremier, BadRule, BadSeats, GazetteError, MissingDependency, NothingToUndo,
    RecordFull, SittingOutOfOrder, UnsafeCharter,
)
from gazette.gazettes import Gazette
from gazette.pruning import prune
from gazette.validity import final_state, history, validity, was_valid
from samples import KINDS, some_record, some_safe_charter
from support import Case, charter_of, entry, entry_type

PLAIN = entry_type()
SINGLE = charter_of(entry_type(annulled=((0, 2),)))
ANNUL_0, ANNUL_1 = entry(effect=("annul", 0)), entry(effect=("annul", 1))
# Seat changes, which rulings can annul.
CHANGES = charter_of(
    entry_type("seats", ("yeas", 0, 2), basis=((0, 0),), annulled=((1, 2),)), entry_type(basis=((0, 3),)),
)
VACATE = entry(0, 0, "YYN", (None,), None, ("seats", ((0, 2, None),)))
RULING = entry(1, 2, "Y--", (None,), ("annul", 0))
PROPERTIES = ("charter", "record", "batches", "sitting", "validity", "state", "pruned")
METHODS = {
    "enter": "(self, entries)", "undo": "(self)", "was_valid": "(self, length, entry)", "history": "(self, entry)",
    "certificate": "(self, entry)", "verify_certificate": "(self, entry, certificate)",
    "impact": "(self, number, action, entry)", "objections": "(self, entry)", "day_of": "(self, entry)",
    "__init__": "(self, charter)", "__len__": "(self)", "__iter__": "(self)", "__str__": "(self)",
}


def told(gazette):
    """All that a gazette answers, apart from what takes arguments other than entries."""
    answers = [getattr(gazette, name) for name in PROPERTIES] + [len(gazette), str(gazette), tuple(gazette)]
    for number in range(len(gazette)):
        answers += [gazette.history(number), gazette.certificate(number), gazette.objections(number)]
        answers += [gazette.day_of(number), gazette.was_valid(len(gazette), number)]
        answers.append(gazette.impact(0, "annul", number))
    return repr(answers)


def entered(charter, *batches):
    gazette = Gazette(charter)
    for batch in batches:
        gazette.enter(batch)
    return gazette


class GazetteCase(Case):
    def refused(self, error, question, *arguments, **attributes):
        with self.assertRaises(GazetteError) as caught:
            question(*arguments)
        self.assertIs(caught.exception.__class__, error)
        self.same(vars(caught.exception), attributes)


class InterfaceTest(Case):
    def test_methods_stand_in_the_class_itself(self):
        for name, signature in METHODS.items():
            self.assertIn(name, vars(Gazette))
            self.assertEqual(str(inspect.signature(vars(Gazette)[name])), signature)

    def test_properties_stand_in_the_class_itself(self):
        for name in PROPERTIES:
            self.assertIsInstance(vars(Gazette)[name], property)

    def test_defined_in_its_file(self):
        self.assertEqual((Gazette.__module__, Gazette.__bases__), ("gazette.gazettes", (object,)))


class NewGazetteTest(GazetteCase):
    def test_an_empty_record(self):
        gazette = Gazette(CHANGES)
        self.same([getattr(gazette, name) for name in PROPERTIES], [
            CHANGES, (), (), 0, (), (((0, 1, 2),), (), (), (0,), 0), ()])
        self.same((len(gazette), str(gazette), tuple(gazette)), (0, "0 entries", ()))

    def test_errors_of_charters(self):
        self.refused(BadSeats, Gazette, charter_of(PLAIN, seats=((3,),)))
        self.refused(BadAmounts, Gazette, charter_of(PLAIN, appropriations=()))
        self.refused(BadPremier, Gazette, charter_of(PLAIN, premier=3))
        self.refused(BadDependency, Gazette, charter_of(PLAIN, entry_type(basis=((2, 1),))), number=1)
        self.refused(MissingDependency, Gazette, charter_of(PLAIN, entry_type("seats")), number=1)
        self.refused(BadRule, Gazette, charter_of(entry_type(rule=("yeas", 0, 0))), number=0)

    def test_errors_of_charters_in_their_order(self):
        unsafe = entry_type(basis=((0, 0),), annulled=((0, 1),))
        self.refused(UnsafeCharter, Gazette, charter_of(unsafe), cycle=(0, 1))
        self.refused(BadRule, Gazette, charter_of(unsafe, entry_type(rule=("yeas", 0, 4))), number=1)
        self.refused(BadSeats, Gazette, charter_of(unsafe, seats=((3,),), premier=3))
        self.refused(BadPremier, Gazette, charter_of(unsafe, premier=3))

    def test_the_charter_of_the_introduction_with_a_shorter_delay(self):
        hasty = charter_of(CHANGES[9][0], entry_type(basis=((0, 2),)))
        self.refused(UnsafeCharter, Gazette, hasty, cycle=(1, 2))

    def test_the_reported_cycle(self):
        slow = entry_type(basis=((0, 3),), annulled=((0, 1),))
        self.refused(UnsafeCharter, Gazette, charter_of(slow), cycle=(0, 1, 1, 1))


class EnterTest(GazetteCase):
    def test_whose_validity_changes(self):
        gazette = Gazette(SINGLE)
        self.same(gazette.enter((entry(),)), (0,))
        self.same(gazette.enter((ANNUL_0,)), (0, 1))
        self.same(gazette.enter((ANNUL_1,)), (0, 1, 2))
        self.same(gazette.enter((entry(0, 0, "NNN"), entry(0, 1))), (4,))
        self.same(gazette.validity, (True, False, True, False, True))

    def test_a_batch_in_which_entries_act_on_each_other(self):
        gazette = Gazette(SINGLE)
        self.same(gazette.enter((entry(), ANNUL_0, entry(effect=("annul", 1)))), (0, 2))
        self.same(gazette.enter((entry(0, 3, effect=("annul", 2)), entry(0, 3, effect=("annul", 2)))), (3, 4))

    def test_what_follows(self):
        gazette = entered(CHANGES, (VACATE,))
        self.same(gazette.state, (((0, 1, None),), (), (), (0,), 0))
        self.same(gazette.pruned, (VACATE,))
        self.same(gazette.enter((RULING,)), (0, 1))
        self.same(gazette.record, (VACATE, RULING))
        self.same(tuple(gazette), (VACATE, RULING))
        self.same((gazette.batches, gazette.sitting, len(gazette)), ((1, 1), 2, 2))
        self.same(gazette.validity, (False, True))
        self.same(gazette.state, (((0, 1, 2),), (), (), (0,), 0))
        self.same(gazette.pruned, (entry(1, 2, "Y--", (None,)),))

    def test_a_gazette_that_is_full(self):
        gazette = entered(SINGLE, (entry(),) * 20, (entry(),) * 19)
        self.refused(RecordFull, gazette.enter, (entry(),) * 2)
        self.same((len(gazette), gazette.batches), (39, (20, 19)))
        self.same(gazette.enter((entry(0, 1),)), (39,))
        self.refused(RecordFull, gazette.enter, (entry(0, 1),))
        self.refused(RecordFull, gazette.enter, (entry(0, 1),) * 20)
        self.same((len(gazette), gazette.batches, gazette.sitting), (40, (20, 19, 1), 1))
        self.same(gazette.undo(), ())
        self.same(gazette.enter((entry(0, 2),)), (39,))

    def test_bad_entries(self):
        gazette = entered(CHANGES, (VACATE, RULING))
        for reason, wrong in (
            ("type", entry(2, 2)), ("roll call", entry(1, 2, "YY", (None,))), ("basis", entry(1, 2)),
            ("basis", entry(1, 2, basis=(3,))), ("effect", entry(1, 2, basis=(None,), effect=("annul", 3))),
            ("payload", entry(1, 2, basis=(None,), payload=("appointment", None))),
        ):
            fine = entry(1, 2, basis=(0,), effect=("annul", 1))
            self.refused(BadEntry, gazette.enter, (fine, wrong, entry(100)), number=3, reason=reason)
        self.same(gazette.record, (VACATE, RULING))

    def test_numbers_are_those_of_the_record(self):
        gazette = entered(CHANGES, (VACATE, RULING))
        self.same(gazette.enter((entry(1, 3, basis=(0,)), entry(1, 3, basis=(2,), effect=("annul", 2)))), ())
        self.same(gazette.objections(2), (("basis", 0),))
        self.refused(BadEntry, gazette.enter, (entry(1, 3, basis=(4,)),), number=4, reason="basis")

    def test_sittings_that_fall(self):
        gazette = entered(SINGLE, (entry(0, 4),))
        self.refused(SittingOutOfOrder, gazette.enter, (entry(0, 3),), number=1)
        self.refused(SittingOutOfOrder, gazette.enter, (entry(0, 3), entry(0, 2)), number=1)
        self.refused(SittingOutOfOrder, gazette.enter, (entry(0, 4), entry(0, 6), entry(0, 5)), number=3)
        self.same((gazette.record, gazette.batches), ((entry(0, 4),), (1,)))
        self.refused(SittingOutOfOrder, Gazette(SINGLE).enter, (entry(0, 4), entry(0, 3)), number=1)
        self.same(Gazette(SINGLE).enter((entry(0, 400),)), (0,))

    def test_several_errors_in_their_order(self):
        gazette = entered(SINGLE, (entry(0, 4),) * 20, (entry(0, 4),) * 18)
        bad = entry(1, 4)
        self.refused(RecordFull, gazette.enter, (entry(0, 3), bad, bad))
        self.refused(BadEntry, gazette.enter, (entry(0, 3), bad), number=39, reason="type")
        self.refused(BadEntry, gazette.enter, (bad, entry(0, 3)), number=38, reason="type")
        self.refused(SittingOutOfOrder, gazette.enter, (entry(0, 3), entry(0, 4)), number=38)
        self.same(gazette.enter((entry(0, 4),) * 2), (38, 39))

    def test_after_a_refused_call_it_answers_as_before(self):
        gazette = entered(CHANGES, (VACATE,), (RULING,))
        before = told(gazette)
        for wrong in ((entry(0, 5),) * 39, (entry(0, 5),), (entry(1, 5, basis=(None,)), entry(1, 4, basis=(None,)))):
            with self.assertRaises(GazetteError):
                gazette.enter(wrong)
            self.assertEqual(told(gazette), before)
        self.assertEqual(told(gazette), told(entered(CHANGES, (VACATE,), (RULING,))))

    def test_20_entries_at_once(self):
        gazette = Gazette(SINGLE)
        self.same(gazette.enter((entry(),) * 20), tuple(range(20)))
        self.same(gazette.enter((entry(),) * 20), tuple(range(20, 40)))


class UndoTest(GazetteCase):
    def test_whose_validity_changes(self):
        gazette = entered(SINGLE, (entry(),), (ANNUL_0, entry()), (ANNUL_1,))
        self.same(gazette.undo(), (0, 1))
        self.same((gazette.validity, gazette.batches), ((False, True, True), (1, 2)))
        self.same(gazette.undo(), (0,))
        self.same((gazette.validity, gazette.batches), ((True,), (1,)))
        self.same(gazette.undo(), ())
        self.same((gazette.validity, gazette.batches, gazette.record), ((), (), ()))

    def test_no_change(self):
        gazette = entered(SINGLE, (entry(),), (entry(), entry()))
        self.same(gazette.undo(), ())
        self.same(gazette.record, (entry(),))

    def test_undoing_more_often_than_entering(self):
        gazette = Gazette(SINGLE)
        self.refused(NothingToUndo, gazette.undo)
        gazette.enter((entry(),))
        gazette.undo()
        for _ in range(2):
            self.refused(NothingToUndo, gazette.undo)
            self.assertEqual(told(gazette), told(Gazette(SINGLE)))

    def test_a_refused_call_makes_no_batch(self):
        gazette = entered(SINGLE, (entry(0, 1),))
        self.refused(SittingOutOfOrder, gazette.enter, (entry(),), number=1)
        self.same(gazette.undo(), ())
        self.refused(NothingToUndo, gazette.undo)

    def test_entering_behind_an_undoing(self):
        gazette = entered(SINGLE, (entry(0, 1),), (entry(0, 5),) * 3)
        gazette.undo()
        self.same(gazette.sitting, 1)
        self.same(gazette.enter((entry(0, 2, effect=("annul", 0)), entry(0, 2))), (0, 1, 2))
        self.same((gazette.batches, gazette.sitting), ((1, 2), 2))
        self.same(gazette.undo(), (0,))

    def test_the_state_and_the_pruned_record(self):
        gazette = entered(CHANGES, (VACATE,), (RULING,))
        gazette.undo()
        self.same(gazette.state, (((0, 1, None),), (), (), (0,), 0))
        self.same(gazette.pruned, (VACATE,))


class QuestionsTest(GazetteCase):
    gazette = entered(SINGLE, (entry(), ANNUL_0), (entry(0, 1, effect=("annul", 1)),), (entry(0, 4, "NNN"),))

    def test_was_valid_and_history(self):
        self.same([self.gazette.was_valid(length, 0) for length in (1, 2, 3, 4)], [True, False, True, True])
        self.same(self.gazette.history(0), ((1, True), (2, False), (3, True)))
        self.same(self.gazette.history(3), ((4, False),))

    def test_objections(self):
        self.same([self.gazette.objections(number) for number in range(4)], [
            (), (("annulled", 2),), (), (("roll call",),)])

    def test_certificates(self):
        pairs = ((0, True), (1, False), (2, True))
        self.same(self.gazette.certificate(0), pairs)
        self.same(self.gazette.verify_certificate(0, pairs), True)
        self.same(self.gazette.verify_certificate(3, pairs), False)
        self.same(self.gazette.verify_certificate(0, pairs[:2]), False)

    def test_impact(self):
        self.same(self.gazette.impact(0, "annul", 2), (4,))
        self.same(self.gazette.impact(0, "annul", 3), (4,))
        self.same(entered(SINGLE, (entry(), ANNUL_0)).impact(0, "annul", 1), (0, 1, 2))
        self.assertEqual(len(self.gazette), 4)

    def test_impact_on_a_full_gazette(self):
        gazette = entered(SINGLE, (entry(),) * 20, (entry(),) * 20)
        self.same(gazette.impact(0, "annul", 39), (39, 40))
        self.assertEqual(len(gazette), 40)

    def test_day_of(self):
        # Sittings on Mondays and Thursdays from day 3, a Thursday, on, but not on days 7 and 10.
        calendar = (3, (True, False, False, True, False, False, False), (10, 7, 10))
        gazette = entered(charter_of(PLAIN, calendar=calendar), (entry(), entry(0, 1), entry(0, 1), entry(0, 3)))
        self.same([gazette.day_of(number) for number in range(4)], [3, 14, 14, 21])
        self.same([self.gazette.day_of(number) for number in range(4)], [0, 0, 1, 4])

    def test_an_iteration_within_another_one(self):
        entries = self.gazette.record
        self.same([(one, other) for one in self.gazette for other in self.gazette], [
            (one, other) for one in entries for other in entries])

    def test_an_iteration_while_entries_are_entered(self):
        gazette = entered(SINGLE, (entry(), entry(0, 1)))
        seen = []
        for one in gazette:
            seen.append(one)
            gazette.enter((entry(0, 7),))
        self.same(seen, [entry(), entry(0, 1)])
        self.assertEqual(len(gazette), 4)

    def test_words(self):
        self.same([str(entered(SINGLE, *[(entry(),)] * many)) for many in range(3)], [
            "0 entries", "1 entries", "2 entries"])
        self.same([len(entered(SINGLE, *[(entry(),)] * many)) for many in range(3)], [0, 1, 2])

    def test_questions_change_nothing(self):
        before = told(self.gazette)
        self.assertEqual(told(self.gazette), before)


class PropertiesTest(GazetteCase):
    def test_two_gazettes_have_no_influence_on_each_other(self):
        one, other = Gazette(CHANGES), Gazette(CHANGES)
        one.enter((VACATE,))
        self.assertEqual(told(other), told(Gazette(CHANGES)))
        other.enter((entry(1, 5, basis=(None,)),))
        self.assertEqual(told(one), told(entered(CHANGES, (VACATE,))))
        one.undo()
        self.assertEqual(told(other), told(entered(CHANGES, (entry(1, 5, basis=(None,)),))))

    def test_the_entries_that_are_passed_are_not_kept(self):
        gazette = Gazette(SINGLE)
        batch = (entry(), ANNUL_0)
        gazette.enter(batch)
        self.same(batch, (entry(), ANNUL_0))
        self.same(gazette.record, batch)

    def test_against_the_functions(self):
        numbers = random.Random(280)
        for _ in range(40):
            charter = some_safe_charter(numbers, numbers.randint(1, 6), numbers.choice((KINDS, ("none",))))
            record = some_record(numbers, charter, 9)
            gazette = self.some_way(numbers, charter, record)
            statuses = validity(charter, record)
            self.same(gazette.record, record)
            self.same((gazette.charter, gazette.validity), (charter, statuses))
            self.same(gazette.state, final_state(charter, record))
            self.same(gazette.pruned, prune(charter, record, statuses))
            self.same(gazette.sitting, record[-1][1])
            for number in range(9):
                pairs = certificate(charter, record, number)
                self.same(gazette.certificate(number), pairs)
                self.same(gazette.verify_certificate(number, pairs), verify_certificate(charter, record, number, pairs))
                self.same(gazette.history(number), history(charter, record, number))
                self.same(gazette.was_valid(9, number), was_valid(charter, record, 9, number))
                self.same(gazette.objections(number), objections(charter, record, statuses, number))
                self.same(gazette.impact(0, "cure", number), impact(charter, record, 0, "cure", number))

    def some_way(self, numbers, charter, record):
        """A gazette with this record, which came about with some batches that were taken back."""
        gazette = Gazette(charter)
        while len(gazette) < len(record):
            before = gazette.validity
            length = len(gazette) + numbers.randint(1, len(record) - len(gazette))
            told_numbers = gazette.enter(record[len(gazette):length])
            after = gazette.validity
            old = before + (False,) * (length - len(before))
            self.same(told_numbers, tuple(number for number in range(length) if old[number] != after[number]))
            if length < len(record) and numbers.random() < 0.5:
                left = len(before)
                self.same(gazette.undo(), tuple(number for number in range(left) if before[number] != after[number]))
                self.same(gazette.validity, before)
        return gazette

    def test_gazettes_that_agree_answer_alike(self):
        numbers = random.Random(281)
        for _ in range(25):
            charter = some_safe_charter(numbers, numbers.randint(1, 5), KINDS)
            record = some_record(numbers, charter, 8)
            one = self.some_way(numbers, charter, record)
            other = Gazette(charter)
            done = 0
            for size in one.batches:
                other.enter(record[done:done + size])
                done += size
            self.assertEqual(told(one), told(other))
            self.same(one.undo(), other.undo())
            self.assertEqual(told(one), told(other))

    def test_40_entries_and_8_types(self):
        numbers = random.Random(40)
        charter = some_safe_charter(numbers, 8, KINDS, delays=12)
        record = some_record(numbers, charter, 40)
        gazette = entered(charter, record[:20], record[20:])
        self.assertEqual(told(gazette), told(gazette))
        for number, status in enumerate(gazette.validity):
            self.same(status, reference.valid(charter, record, gazette.validity, number))


if __name__ == "__main__":
    unittest.main()
