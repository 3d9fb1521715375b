"""Points 62, 68, 80 and 90 to 92: bills, reports and statutes."""

import itertools
import unittest

from gazette.amendments import amended
from gazette.bills import adopted_edits, is_valid_bill, is_valid_report, is_valid_statute, resulting_text
from support import Case

TEXT = ("a", "b", "c")
A, AB, B, C = (0, ("a",), ("x",)), (0, ("a", "b"), ()), (1, ("b",), ("y",)), (2, ("c",), ())
TOP, MIDDLE, WRONG = (0, (), ("t",)), (1, (), ("m",)), (0, ("z",), ())


def bill(edits, adopted, lines=TEXT):
    return ("bill", lines, tuple((edit, "YN-") for edit in edits), adopted)


class AdoptedEditsTest(Case):
    def test_in_the_order_of_adopted(self):
        self.same(adopted_edits(bill((A, B, C), (2, 0))), (C, A))
        self.same(adopted_edits(bill((A, B, C), (0, 1, 2))), (A, B, C))
        self.same(adopted_edits(bill((A, B, C), ())), ())
        self.same(adopted_edits(bill((), ())), ())

    def test_a_number_without_an_amendment(self):
        self.same(adopted_edits(bill((A, B), (2, 1, 7))), (B,))
        self.same(adopted_edits(bill((), (0,))), ())

    def test_a_number_that_occurs_twice(self):
        self.same(adopted_edits(bill((A, B), (1, 0, 1))), (B, A, B))

    def test_they_need_not_apply(self):
        self.same(adopted_edits(bill((WRONG, AB), (1, 0))), (AB, WRONG))


class ResultingTextTest(Case):
    def test_of_a_bill(self):
        self.same(resulting_text(bill((A, B, C), (0, 1))), ("x", "y", "c"))
        self.same(resulting_text(bill((A, B, C), (1, 0))), ("x", "y", "c"))
        self.same(resulting_text(bill((A, B, C), ())), TEXT)
        self.same(resulting_text(bill((AB, C), (1, 0))), ())
        self.same(resulting_text(bill((), (), ())), ())

    def test_adopted_edits_that_do_not_apply(self):
        self.same(resulting_text(bill((WRONG, A), (0,))), None)
        self.same(resulting_text(bill((WRONG, A), (1,))), ("x", "b", "c"))
        self.same(resulting_text(bill((A, AB), (0, 1))), None)
        self.same(resulting_text(bill((A,), (0, 0))), None)
        self.same(resulting_text(bill(((4, (), ()),), (0,))), None)

    def test_equal_places_keep_the_order_of_adopted(self):
        other = (0, (), ("u",))
        self.same(resulting_text(bill((TOP, other), (0, 1))), ("t", "u", "a", "b", "c"))
        self.same(resulting_text(bill((TOP, other), (1, 0))), ("u", "t", "a", "b", "c"))
        self.same(resulting_text(bill((TOP,), (0, 0))), ("t", "t", "a", "b", "c"))
        self.same(resulting_text(bill((A, TOP), (0, 1))), ("t", "x", "b", "c"))

    def test_numbers_without_an_amendment(self):
        self.same(resulting_text(bill((A,), (7, 0, 1))), ("x", "b", "c"))

    def test_of_a_report(self):
        self.same(resulting_text(("report", TEXT, (C, A))), ("x", "b"))
        self.same(resulting_text(("report", TEXT, ())), TEXT)
        self.same(resulting_text(("report", TEXT, (A, A))), None)
        self.same(resulting_text(("report", TEXT, (WRONG,))), None)
        self.same(resulting_text(("report", TEXT, (A, TOP))), ("t", "x", "b", "c"))
        self.same(resulting_text(("report", TEXT, (AB, MIDDLE))), None)

    def test_a_long_result(self):
        edits = tuple((0, (), (str(number),) * 6) for number in range(8))
        self.same(len(resulting_text(bill(edits, tuple(range(8))))), 51)


class ValidBillTest(Case):
    def test_what_is_adopted(self):
        self.same(is_valid_bill(bill((B, A), (1, 0)), (True, True)), True)
        self.same(is_valid_bill(bill((B, A), (0,)), (True, False)), True)
        self.same(is_valid_bill(bill((B, A), (1,)), (True, False)), False)
        self.same(is_valid_bill(bill((B, A), ()), (True, False)), False)
        self.same(is_valid_bill(bill((B, A), (1, 0)), (True, False)), False)
        self.same(is_valid_bill(bill((), ()), ()), True)
        self.same(is_valid_bill(bill((), (0,)), ()), False)

    def test_voting_order(self):
        self.same(is_valid_bill(bill((B, A), (0, 1)), (True, True)), False)
        self.same(is_valid_bill(bill((TOP, A), (1, 0)), (True, True)), True)
        self.same(is_valid_bill(bill((TOP, A), (0, 1)), (True, True)), False)

    def test_superseded_amendments(self):
        self.same(is_valid_bill(bill((A, AB), (1,)), (True, True)), True)
        self.same(is_valid_bill(bill((A, AB), (0,)), (True, True)), False)
        self.same(is_valid_bill(bill((A, AB), (0,)), (True, False)), True)
        self.same(is_valid_bill(bill((A, A), (0,)), (True, True)), True)
        self.same(is_valid_bill(bill((A, A), (0, 1)), (True, True)), False)

    def test_a_number_without_an_amendment_or_twice(self):
        self.same(is_valid_bill(bill((A,), (0, 1)), (True,)), False)
        self.same(is_valid_bill(bill((A,), (0, 0)), (True,)), False)
        self.same(is_valid_bill(bill((TOP,), (0, 0)), (True,)), False)

    def test_each_amendment_applies_on_its_own(self):
        self.same(is_valid_bill(bill((A, WRONG), (0,)), (True, False)), False)
        self.same(is_valid_bill(bill((WRONG,), (0,)), (True,)), False)
        self.same(is_valid_bill(bill(((3, ("d",), ()),), ()), (False,)), False)
        self.same(is_valid_bill(bill(((4, (), ()),), ()), (False,)), False)
        self.same(is_valid_bill(bill(((3, (), ()),), ()), (False,)), True)

    def test_a_superseded_amendment_that_does_not_apply(self):
        self.same(is_valid_bill(bill((AB, (1, ("z",), ())), (0,)), (True, True)), False)

    def test_a_valid_bill_has_the_resulting_text_of_its_amendments(self):
        edits = (TOP, B, AB, A, MIDDLE)
        for many in range(4):
            for chosen in itertools.permutations(edits, many):
                for flags in itertools.product((True, False), repeat=many):
                    valid = [
                        adopted for length in range(many + 1)
                        for adopted in itertools.permutations(range(many), length)
                        if is_valid_bill(bill(chosen, adopted), flags)
                    ]
                    self.assertEqual(len(valid), 1)
                    self.same(resulting_text(bill(chosen, valid[0])), amended(TEXT, chosen, flags))


class ValidReportTest(Case):
    def test_a_compromise(self):
        self.same(is_valid_report(("report", TEXT, (A, C)), bill((A,), (0,)), bill((C,), (0,))), True)
        self.same(is_valid_report(("report", TEXT, ()), bill((A,), (0,)), bill((C,), (0,))), True)
        self.same(is_valid_report(("report", TEXT, (B,)), bill((A,), (0,)), bill((C,), (0,))), False)
        self.same(is_valid_report(("report", TEXT, (C,)), bill((A,), (0,)), bill((A, C), (0, 1))), False)
        self.same(is_valid_report(("report", TEXT, (C, A)), bill((A,), (0,)), bill((A, C), (0, 1))), True)
        self.same(is_valid_report(("report", TEXT, (A, AB)), bill((A,), (0,)), bill((AB,), (0,))), False)
        self.same(is_valid_report(("report", TEXT, ()), bill((), ()), bill((), ())), True)

    def test_only_adopted_edits_count(self):
        self.same(is_valid_report(("report", TEXT, (A,)), bill((A,), ()), bill((C,), (0,))), False)
        self.same(is_valid_report(("report", TEXT, ()), bill((A,), ()), bill((A,), (0,))), True)
        self.same(is_valid_report(("report", TEXT, ()), bill((A,), (0,)), bill((A,), (0,))), False)

    def test_adopted_twice(self):
        self.same(is_valid_report(("report", TEXT, (A,)), bill((A,), (0, 0)), bill((A,), (0,))), True)
        self.same(is_valid_report(("report", TEXT, (TOP, TOP)), bill((TOP,), (0, 0)), bill((TOP,), (0,))), False)

    def test_the_same_lines(self):
        other = ("a", "b", "d")
        self.same(is_valid_report(("report", TEXT, (A,)), bill((A,), (0,), other), bill((A,), (0,))), False)
        self.same(is_valid_report(("report", TEXT, (A,)), bill((A,), (0,)), bill((A,), (0,), other)), False)
        self.same(is_valid_report(("report", other, (A,)), bill((A,), (0,)), bill((A,), (0,))), False)
        self.same(is_valid_report(("report", other, (A,)), bill((A,), (0,), other), bill((A,), (0,), other)), True)

    def test_a_resulting_text(self):
        self.same(is_valid_report(("report", TEXT, (WRONG,)), bill((WRONG,), (0,)), bill((), ())), False)
        self.same(is_valid_report(("report", TEXT, ()), bill((WRONG,), (0,)), bill((), ())), True)

    def test_an_empty_resulting_text(self):
        self.same(is_valid_report(("report", ("a",), ((0, ("a",), ()),)), bill((), (), ("a",)), bill(
            ((0, ("a",), ()),), (0,), ("a",))), True)

    def test_the_order_does_not_matter(self):
        for edits in itertools.permutations((A, B, C)):
            self.same(is_valid_report(("report", TEXT, edits), bill((A, B), (0, 1)), bill((C, B), (1, 0))), True)

    def test_the_bills_need_not_be_valid(self):
        self.same(is_valid_report(("report", TEXT, (C,)), bill((C, WRONG), (0,)), bill((A, AB, C), (0, 1, 2))), True)


class ValidStatuteTest(Case):
    def test_edits_that_apply_simultaneously(self):
        self.same(is_valid_statute(TEXT, (A, C), ()), True)
        self.same(is_valid_statute(TEXT, (), ()), True)
        self.same(is_valid_statute((), (TOP,), ()), True)
        self.same(is_valid_statute(TEXT, (WRONG,), ()), False)
        self.same(is_valid_statute(TEXT, (A, AB), ()), False)

    def test_the_given_order(self):
        self.same(is_valid_statute(TEXT, (C, A), ()), False)
        self.same(is_valid_statute(TEXT, (A, TOP), ()), False)
        self.same(is_valid_statute(TEXT, (TOP, A), ()), True)

    def test_no_cited_text(self):
        self.same(is_valid_statute((), ((0, (), ("any", "line")),), ()), True)

    def test_cited_texts(self):
        edits = (TOP, (1, ("b",), ("y", "z")), C)
        self.same(is_valid_statute(TEXT, edits, (("t", "y", "z"),)), True)
        self.same(is_valid_statute(TEXT, edits, (("t", "y", "z"),) * 8), True)
        self.same(is_valid_statute(TEXT, edits, (("t", "y", "z"), ("t", "y"))), False)
        self.same(is_valid_statute(TEXT, edits, (("t", "y"), ("t", "y", "z"))), False)
        self.same(is_valid_statute(TEXT, edits, (("y", "z", "t"),)), False)
        self.same(is_valid_statute(TEXT, edits, (("t", "y", "z", ""),)), False)
        self.same(is_valid_statute(TEXT, edits, ((),)), False)

    def test_an_empty_cited_text(self):
        self.same(is_valid_statute(TEXT, (C,), ((),)), True)
        self.same(is_valid_statute(TEXT, (), ((),)), True)
        self.same(is_valid_statute(TEXT, (A,), ((),)), False)

    def test_the_right_text_does_not_help_edits_that_do_not_apply(self):
        self.same(is_valid_statute(TEXT, (WRONG,), ((),)), False)

    def test_30_lines(self):
        book = tuple(str(number) for number in range(26))
        self.same(is_valid_statute(book, ((3, (), ("n",) * 4),), ()), True)
        self.same(is_valid_statute(book, ((3, (), ("n",) * 5),), ()), False)
        self.same(is_valid_statute(book, ((3, ("3",), ("n",) * 5),), ()), True)
        self.same(is_valid_statute(book, ((3, (), ("n",) * 4), (26, (), ("n",))), (("n",) * 5,)), False)
        full = tuple(str(number) for number in range(30))
        self.same(is_valid_statute(full, (), ()), True)
        self.same(is_valid_statute(full, ((30, (), ()),), ()), True)
        self.same(is_valid_statute(full, ((30, (), ("n",)),), ()), False)
        self.same(is_valid_statute(full, ((29, ("29",), ("n",)),), (("n",),)), True)


if __name__ == "__main__":
    unittest.main()
