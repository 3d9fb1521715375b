"""Points 40, 43, 68, 90, 91, 92, 121, 124 and 186: correct payloads, and such that are wrong in one place."""

import unittest

from gazette.payloads import is_correct
from gazette.states import start_state
from support import Case, charter_of, entry_type

CHARTER = charter_of(
    entry_type(), entry_type(rule=("yeas", 0, ("parameter", 1))), entry_type(rule=("premier",)),
    seats=((0, 1, None), (2,)), parameters=(9, 2), statutes=("a", "b"), tree=(0, 0), appropriations=(5, 3, 0),
    premier=0, petition=(2, 3, 1, 2),
)
START = start_state(CHARTER)
LINES = ("a", "b", "c")
FIRST, SECOND, THIRD = (0, ("a",), ("x",)), (0, ("a", "b"), ()), (3, (), ("z",))


def state(**parts):
    names = ("seats", "parameters", "statutes", "appropriated", "spent", "premier")
    return tuple(parts.get(name, item) for name, item in zip(names, START))


def bill(lines, amendments, adopted):
    return ("bill", lines, amendments, adopted)


class PayloadCase(Case):
    def check(self, expected, payload, cited=(), number=0, before=START, charter=CHARTER):
        self.same(is_correct(charter, before, number, payload, cited), expected)

    def correct(self, payload, *cited, **options):
        self.check(True, payload, cited, **options)

    def wrong(self, payload, *cited, **options):
        self.check(False, payload, cited, **options)


class EmptyTest(PayloadCase):
    def test_empty(self):
        for number in range(3):
            self.correct(None, number=number)
        self.correct(None, ("bill", (), (), ()), None)

    def test_the_kind_of_the_type_makes_no_difference(self):
        for number in range(3):
            self.correct(("appointment", 1), number=number)
            self.wrong(("appointment", 0), number=number)


class SeatsTest(PayloadCase):
    def test_changes(self):
        self.correct(("seats", ((0, 0, None),)))
        self.correct(("seats", ((0, 0, None), (0, 0, 2), (1, 0, None), (1, 0, 0))))

    def test_a_change_that_is_not_valid(self):
        self.wrong(("seats", ((0, 0, 2),)))
        self.wrong(("seats", ((0, 2, None),)))
        self.wrong(("seats", ((0, 2, 1),)))
        self.wrong(("seats", ((0, 3, None),)))
        self.wrong(("seats", ((2, 0, None),)))

    def test_a_member_who_is_none(self):
        self.correct(("seats", ((0, 2, 2),)))
        self.wrong(("seats", ((0, 2, 3),)))

    def test_each_change_counts(self):
        self.wrong(("seats", ((0, 0, None), (0, 0, None))))
        self.wrong(("seats", ((0, 2, 2), (0, 0, None), (0, 2, 0))))

    def test_the_seats_of_the_state(self):
        self.correct(("seats", ((0, 0, 2),)), before=state(seats=((None, 1, 0), (2,))))
        self.wrong(("seats", ((0, 0, None),)), before=state(seats=((None, 1, 0), (2,))))


class ParametersTest(PayloadCase):
    def test_parameters(self):
        self.correct(("parameters", ((0, 1000), (1, 0), (1, 5))))
        self.correct(("parameters", ((1, 7),)))
        self.wrong(("parameters", ((2, 0),)))
        self.wrong(("parameters", ((0, 0), (7, 0))))

    def test_other_numbers_of_parameters(self):
        charter = charter_of(entry_type())
        self.wrong(("parameters", ((0, 0),)), charter=charter, before=start_state(charter))
        charter = charter_of(entry_type(), parameters=(0,) * 8)
        self.correct(("parameters", ((7, 0),)), charter=charter, before=start_state(charter))


class StatuteTest(PayloadCase):
    edits = ((0, ("a",), ("x", "y")), (2, (), ("z",)))
    passed = bill(("x",), ((THIRD, ""), ((0, ("x",), ("x", "y", "z")), "")), (1,))

    def test_nothing_cited(self):
        self.correct(("statute", self.edits))
        self.correct(("statute", ((0, ("a", "b"), ()),)))

    def test_edits_that_do_not_apply(self):
        self.wrong(("statute", ((0, ("b",), ()),)))
        self.wrong(("statute", self.edits[::-1]))
        self.wrong(("statute", self.edits), before=state(statutes=("b", "a")))

    def test_the_book_of_the_state(self):
        self.correct(("statute", ((0, ("c",), ()),)), before=state(statutes=("c",)))

    def test_a_result_of_30_and_of_31_lines(self):
        self.correct(("statute", ((0, (), ("x",)),)), before=state(statutes=("l",) * 29))
        self.wrong(("statute", ((0, (), ("x", "y")),)), before=state(statutes=("l",) * 29))

    def test_cited_texts(self):
        self.correct(("statute", self.edits), ("report", ("x", "y", "z"), ()))
        self.correct(("statute", self.edits), self.passed)
        self.correct(("statute", self.edits), self.passed, ("report", ("x", "z"), ((1, (), ("y",)),)))
        self.wrong(("statute", self.edits), ("report", ("x", "y"), ()))
        self.wrong(("statute", self.edits), self.passed, ("report", ("x", "y"), ()))
        self.wrong(("statute", self.edits), ("report", (), ()), self.passed)
        self.wrong(("statute", ((0, ("a", "b"), ()),)), self.passed)

    def test_cited_bills_that_are_not_correct(self):
        # The bill tells an amendment as adopted that does not even pass; its resulting text counts all the same.
        untrue = bill(("x",), (((1, (), ("y", "z")), "NNN"),), (0, 5))
        self.wrong(untrue)
        self.correct(("statute", self.edits), untrue)
        self.wrong(("statute", self.edits[:1]), untrue)

    def test_cited_bills_and_reports_without_a_resulting_text(self):
        no_text = bill(("x",), ((FIRST, ""),), (0,))
        self.correct(("statute", self.edits), no_text)
        self.correct(("statute", self.edits), no_text, ("report", ("x",), ((5, (), ()),)), self.passed)
        self.wrong(("statute", self.edits[:1]), no_text, self.passed)

    def test_empty_and_other_payloads_cited(self):
        self.correct(("statute", self.edits), None, ("appointment", 1), ("statute", ((0, (), ("q",)),)))
        self.correct(("statute", self.edits), None, self.passed, None)
        self.wrong(("statute", self.edits[:1]), None, self.passed)


class BillTest(PayloadCase):
    def test_no_amendments(self):
        self.correct(bill(LINES, (), ()))
        self.correct(bill((), (), ()))
        self.wrong(bill(LINES, (), (0,)))

    def test_votes_on_amendments(self):
        amendments = ((FIRST, "YNN"), (THIRD, "NYY"))
        self.correct(bill(LINES, amendments, (0,)))
        self.wrong(bill(LINES, amendments, ()))
        self.wrong(bill(LINES, amendments, (1,)))
        self.wrong(bill(LINES, amendments, (0, 1)))

    def test_the_rule_of_the_type(self):
        # Type 1 needs two yeas of members 0 and 1, who hold the seats of chamber 0.
        amendments = ((FIRST, "YNY"), (THIRD, "YYN"))
        self.correct(bill(LINES, amendments, (0, 1)), number=2)
        self.correct(bill(LINES, amendments, (1,)), number=1)
        self.wrong(bill(LINES, amendments, (0, 1)), number=1)

    def test_seats_parameters_and_premier_of_the_state(self):
        amendments = ((FIRST, "YNY"),)
        self.correct(bill(LINES, amendments, (0,)), number=1, before=state(seats=((0, 2, None), (1,))))
        self.correct(bill(LINES, amendments, (0,)), number=1, before=state(parameters=(9, 1)))
        self.correct(bill(LINES, amendments, ()), number=2, before=state(premier=1))
        self.correct(bill(LINES, amendments, ()), number=2, before=state(premier=None))
        self.correct(bill(LINES, amendments, (0,)), number=2, before=state(premier=2))

    def test_superseded_amendments(self):
        amendments = ((FIRST, "YYY"), (SECOND, "YYY"))
        self.correct(bill(LINES, amendments, (1,)))
        self.wrong(bill(LINES, amendments, (0,)))
        self.wrong(bill(LINES, amendments, (1, 0)))
        self.correct(bill(LINES, ((FIRST, "YYY"), (SECOND, "NYY")), (0,)))

    def test_voting_order(self):
        amendments = ((THIRD, "YYY"), (FIRST, "YYY"))
        self.correct(bill(LINES, amendments, (1, 0)))
        self.wrong(bill(LINES, amendments, (0, 1)))

    def test_an_amendment_that_does_not_apply(self):
        self.wrong(bill(LINES, ((FIRST, "YYY"), ((3, ("d",), ()), "NNN")), (0,)))

    def test_cited_payloads_make_no_difference(self):
        self.correct(bill(LINES, (), ()), None, bill(LINES, (), (0,)), ("petition", ((0, 0),)))


class ReportTest(PayloadCase):
    one = bill(LINES, ((FIRST, "YYY"),), (0,))
    other = bill(LINES, ((SECOND, "YYY"), (THIRD, "YYY")), (0, 1))

    def test_two_bills(self):
        self.correct(("report", LINES, ()), self.one, self.other)
        self.correct(("report", LINES, (FIRST,)), self.one, self.other)
        self.correct(("report", LINES, (THIRD, SECOND)), self.one, self.other)
        self.correct(("report", LINES, (THIRD, SECOND)), self.other, self.one)

    def test_fewer_than_two_bills(self):
        self.wrong(("report", LINES, ()))
        self.wrong(("report", LINES, ()), self.one)
        self.wrong(("report", LINES, ()), None, self.one, ("report", LINES, ()), ("petition", ((0, 0),)))

    def test_the_first_two_bills_count(self):
        for cited in ((self.one, self.other, self.one), (None, self.one, ("report", (), ()), self.other, self.one)):
            self.correct(("report", LINES, (THIRD,)), *cited)
        self.wrong(("report", LINES, (THIRD,)), self.one, self.one, self.other)

    def test_edits_that_are_no_compromise(self):
        self.wrong(("report", LINES, (FIRST, SECOND)), self.one, self.other)
        self.wrong(("report", LINES, ((1, (), ("q",)),)), self.one, self.other)
        self.wrong(("report", LINES, ()), self.one, self.one)
        self.correct(("report", LINES, (FIRST,)), self.one, self.one)

    def test_other_lines(self):
        self.wrong(("report", LINES[:2], ()), self.one, self.other)
        self.wrong(("report", LINES, ()), self.one, bill(("a", "b"), (), ()))
        self.wrong(("report", LINES, ()), bill(("a", "b"), (), ()), self.one)

    def test_no_resulting_text(self):
        beyond = bill(LINES, (((4, (), ("q",)), "YYY"),), (0,))
        self.wrong(beyond)
        self.correct(("report", LINES, ()), self.one, beyond)
        self.wrong(("report", LINES, (beyond[2][0][0],)), self.one, beyond)

    def test_cited_bills_that_are_not_correct(self):
        untrue = bill(LINES, ((FIRST, "NNN"),), (0,))
        self.wrong(untrue)
        self.correct(("report", LINES, (FIRST, THIRD)), untrue, self.other)


class BudgetTest(PayloadCase):
    rows = ((1, 6), (2, 2), (3, 3))

    def test_consistent_rows(self):
        self.correct(("budget", self.rows))
        self.correct(("budget", ((0, 0), (0, 0), (0, 0))))

    def test_rows_that_are_not_consistent(self):
        self.wrong(("budget", ((1, 5), (2, 2), (3, 3))))
        self.wrong(("budget", ((1, 6), (2, 1), (3, 3))))
        self.wrong(("budget", self.rows[:2]))
        self.wrong(("budget", self.rows + ((0, 0),)))

    def test_what_has_been_spent(self):
        self.correct(("budget", self.rows), before=state(spent=(0, 3, 3)))
        self.correct(("budget", self.rows), before=state(spent=(0, 2, 4)))
        self.correct(("budget", self.rows), before=state(spent=(1, 2, 3)))
        self.wrong(("budget", self.rows), before=state(spent=(2, 2, 3)))
        self.wrong(("budget", self.rows), before=state(spent=(0, 3, 4)))
        self.wrong(("budget", self.rows), before=state(spent=(0, 0, 5)))

    def test_what_is_appropriated_so_far_makes_no_difference(self):
        self.correct(("budget", self.rows), before=state(appropriated=(0, 0, 0), spent=(0, 2, 4)))


class PaymentsTest(PayloadCase):
    def test_enough_funds(self):
        self.correct(("payments", ((1, 3), (2, 5))))
        self.correct(("payments", ((1, 8),)))
        self.correct(("payments", ((2, 0),)))

    def test_not_enough_funds(self):
        self.wrong(("payments", ((1, 9),)))
        self.wrong(("payments", ((2, 6),)))
        self.wrong(("payments", ((1, 4), (2, 5))))

    def test_what_has_been_spent(self):
        self.correct(("payments", ((1, 2),)), before=state(spent=(0, 1, 5)))
        self.wrong(("payments", ((1, 3),)), before=state(spent=(0, 1, 5)))
        self.wrong(("payments", ((2, 0),)), before=state(spent=(0, 0, 6)))

    def test_what_is_appropriated_in_the_state(self):
        self.correct(("payments", ((2, 9),)), before=state(appropriated=(0, 0, 9)))
        self.wrong(("payments", ((1, 1),)), before=state(appropriated=(0, 0, 9)))

    def test_nodes_that_are_no_leaves(self):
        self.wrong(("payments", ((0, 1),)))
        self.wrong(("payments", ((0, 0),)))
        self.wrong(("payments", ((1, 1), (0, 0))))
        charter = charter_of(entry_type(), appropriations=(4,))
        self.correct(("payments", ((0, 4),)), charter=charter, before=start_state(charter))
        charter = charter_of(entry_type(), tree=(0, 1), appropriations=(4, 4, 4))
        self.wrong(("payments", ((1, 4),)), charter=charter, before=start_state(charter))
        self.correct(("payments", ((2, 4),)), charter=charter, before=start_state(charter))

    def test_nodes_that_do_not_exist(self):
        self.wrong(("payments", ((3, 0),)))
        self.wrong(("payments", ((11, 0), (1, 1))))


class AppointmentTest(PayloadCase):
    def test_another_member(self):
        self.correct(("appointment", 1))
        self.correct(("appointment", 2))
        self.wrong(("appointment", 0))

    def test_a_member_who_is_none(self):
        self.wrong(("appointment", 3))
        self.wrong(("appointment", 11))

    def test_nobody(self):
        self.correct(("appointment", None))
        self.wrong(("appointment", None), before=state(premier=None))
        self.correct(("appointment", 0), before=state(premier=None))


class PetitionTest(PayloadCase):
    def test_petitions(self):
        self.correct(("petition", ((0, 5), (1, 5), (1, 6))))
        self.wrong(("petition", ((0, 5), (1, 5))))
        self.wrong(("petition", ((0, 5), (1, 5), (1, 5))))
        self.wrong(("petition", ((0, 5), (1, 5), (2, 5))))
        self.wrong(("petition", ((1, 4), (1, 5), (1, 6))))


if __name__ == "__main__":
    unittest.main()
