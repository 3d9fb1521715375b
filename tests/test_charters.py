"""Points 140 to 145: charters."""

import itertools
import unittest

from gazette.charters import check_charter, edges, is_backward, pivotal_member, writers
from gazette.errors import BadAmounts, BadDependency, BadPremier, BadRule, BadSeats, GazetteError, MissingDependency
from gazette.rules import passes
from support import SIMPLE_RULES, Case, charter_of, entry_type, in_chamber

PLAIN = entry_type()
BAD_SEATS = {"seats": ((0, 0),)}
BAD_AMOUNTS = {"appropriations": (0, 0)}
BAD_PREMIER = {"premier": 3}
BAD_DEPENDENCY = entry_type("seats", ("majority", 3, "seats"), annulled=((7, 1),))
MISSING_DEPENDENCY = entry_type("seats", ("majority", 3, "seats"))
BAD_RULE = entry_type(rule=("majority", 3, "seats"))


class CheckCase(Case):
    def valid(self, *entry_types, **options):
        self.same(check_charter(charter_of(*entry_types, **options)), None)

    def refused(self, error, *entry_types, number=None, **options):
        with self.assertRaises(GazetteError) as caught:
            check_charter(charter_of(*entry_types, **options))
        self.assertIs(caught.exception.__class__, error)
        if number is not None:
            self.same(caught.exception.number, number)


class CheckSeatsTest(CheckCase):
    def test_valid(self):
        self.valid(PLAIN)
        self.valid(PLAIN, seats=())
        self.valid(PLAIN, seats=((None, None), (2, 1), (2, None, 0)))

    def test_a_holder_who_is_no_member(self):
        self.refused(BadSeats, PLAIN, seats=((3,),))
        self.refused(BadSeats, PLAIN, seats=((0, 1), (2, 11)))
        self.refused(BadSeats, PLAIN, seats=((1,),), members=1)
        self.valid(PLAIN, seats=((2,),))

    def test_two_seats_of_one_chamber(self):
        self.refused(BadSeats, PLAIN, seats=((1, None, 1),))
        self.refused(BadSeats, PLAIN, seats=((0,), (2, 2)))
        self.valid(PLAIN, seats=((1, 0), (1, 0)))


class CheckAmountsTest(CheckCase):
    def test_one_item_for_each_node(self):
        self.valid(PLAIN, tree=(0, 0), appropriations=(1, 2, 3))
        self.refused(BadAmounts, PLAIN, tree=(0, 0), appropriations=(1, 2))
        self.refused(BadAmounts, PLAIN, tree=(0, 0), appropriations=(1, 2, 3, 4))
        self.refused(BadAmounts, PLAIN, tree=(0,), appropriations=(1,))
        self.refused(BadAmounts, PLAIN, tree=(), appropriations=(1, 0))


class CheckPremierTest(CheckCase):
    def test_a_member(self):
        self.valid(PLAIN, premier=2)
        self.refused(BadPremier, PLAIN, premier=3)
        self.refused(BadPremier, PLAIN, premier=11)
        self.refused(BadPremier, PLAIN, premier=1, members=1, seats=())


class CheckDependenciesTest(CheckCase):
    def test_valid(self):
        self.valid(entry_type(basis=((0, 0), (1, 3)), annulled=((1, 2),), cured=((0, 1),)), PLAIN)
        self.valid(entry_type(ratified=((1, 2),)), PLAIN)

    def test_a_type_that_does_not_exist(self):
        for name in ("basis", "annulled", "cured", "ratified"):
            self.refused(BadDependency, entry_type(**{name: ((1, 1),)}), number=0)
            self.refused(BadDependency, PLAIN, entry_type(**{name: ((0, 1), (2, 1))}), number=1)
            self.refused(BadDependency, PLAIN, entry_type(**{name: ((7, 1), (0, 1))}), number=1)
            self.valid(PLAIN, entry_type(**{name: ((0, 1),)}))

    def test_a_type_twice_in_one_tuple(self):
        for name in ("basis", "annulled", "cured", "ratified"):
            self.refused(BadDependency, PLAIN, entry_type(**{name: ((0, 1), (0, 1))}), number=1)
            self.refused(BadDependency, PLAIN, PLAIN, entry_type(**{name: ((0, 1), (1, 1), (0, 2))}), number=2)

    def test_a_type_once_in_each_of_two_tuples(self):
        for one, other in itertools.combinations(("basis", "annulled", "cured", "ratified"), 2):
            self.valid(PLAIN, entry_type(**{one: ((0, 1),), other: ((0, 1),)}))

    def test_a_type_that_names_itself(self):
        for name in ("basis", "annulled", "cured"):
            self.valid(entry_type(**{name: ((0, 1),)}))
        self.refused(BadDependency, entry_type(ratified=((0, 1),)), number=0)

    def test_a_ratifying_type_that_must_be_ratified(self):
        ratified = entry_type(ratified=((2, 1),))
        self.refused(BadDependency, entry_type(ratified=((1, 1),)), ratified, PLAIN, number=0)
        self.refused(BadDependency, ratified, entry_type(ratified=((2, 1), (0, 1))), PLAIN, number=1)
        self.valid(ratified, ratified, PLAIN)
        for name in ("basis", "annulled", "cured"):
            self.valid(entry_type(**{name: ((1, 1),)}), ratified, PLAIN)


class CheckWritersTest(CheckCase):
    def test_a_component_without_writers(self):
        for payload in ("none", "bill", "report", "petition"):
            self.valid(entry_type(payload))
            self.valid(entry_type(payload, basis=((0, 3),)))

    def test_a_writer_without_itself_in_its_basis(self):
        for payload in ("seats", "parameters", "statute", "budget", "payments", "appointment"):
            self.valid(PLAIN, entry_type(payload, basis=((1, 0),)))
            self.refused(MissingDependency, PLAIN, entry_type(payload), number=1)
            self.refused(MissingDependency, PLAIN, entry_type(payload, basis=((0, 0),)), number=1)

    def test_a_delay_that_is_not_0(self):
        self.refused(MissingDependency, entry_type("seats", basis=((0, 1),)), number=0)
        self.refused(MissingDependency, entry_type("payments", basis=((0, 12),)), number=0)

    def test_other_tuples_do_not_help(self):
        self.refused(MissingDependency, entry_type("seats", annulled=((0, 1),), cured=((0, 1),)), number=0)

    def test_several_writers(self):
        both, one = ((0, 0), (1, 0)), ((1, 0),)
        self.valid(entry_type("seats", basis=both), entry_type("seats", basis=both[::-1]))
        self.refused(MissingDependency, entry_type("seats", basis=both), entry_type("seats", basis=one), number=1)
        self.refused(MissingDependency, entry_type("seats", basis=((0, 0), (1, 2))), entry_type(
            "seats", basis=both), number=0)

    def test_two_kinds_of_payload_for_the_treasury(self):
        both = ((0, 0), (1, 0))
        self.valid(entry_type("budget", basis=both), entry_type("payments", basis=both))
        self.refused(MissingDependency, entry_type("budget", basis=both), entry_type(
            "payments", basis=((1, 0),)), number=1)
        self.refused(MissingDependency, entry_type("budget", basis=((0, 0),)), entry_type(
            "payments", basis=both), number=0)

    def test_writers_of_different_components(self):
        self.valid(entry_type("seats", basis=((0, 0),)), entry_type("parameters", basis=((1, 0),)))
        self.valid(entry_type("statute", basis=((0, 0), (1, 5))), entry_type("bill"))


class CheckRuleTest(CheckCase):
    def test_a_chamber_that_does_not_exist(self):
        self.valid(entry_type(rule=("majority", 0, "seats")))
        self.refused(BadRule, entry_type(rule=("majority", 1, "seats")), number=0)
        self.refused(BadRule, entry_type(rule=("any", ("majority", 0, "seats"), ("yeas", 1, 1))), number=0)
        self.refused(BadRule, entry_type(rule=("any", ("premier",), ("yeas", 0, 1))), seats=(), number=0)

    def test_a_parameter_that_does_not_exist(self):
        self.valid(entry_type(rule=("yeas", 0, ("parameter", 1))), parameters=(0, 2))
        self.refused(BadRule, entry_type(rule=("yeas", 0, ("parameter", 1))), parameters=(2,), number=0)
        self.refused(BadRule, entry_type(rule=("any", ("premier",), ("yeas", 0, ("parameter", 0)))), number=0)
        rule = ("all", ("premier",), ("quorum", 0, ("parameter", 7)))
        self.refused(BadRule, entry_type(rule=rule), parameters=(0,) * 7, number=0)
        self.valid(entry_type(rule=rule), parameters=(0,) * 8)

    def test_one_that_fails_when_all_vote_yea(self):
        self.refused(BadRule, entry_type(rule=("yeas", 0, 4)), number=0)
        self.valid(entry_type(rule=("yeas", 0, 3)))
        self.refused(BadRule, entry_type(rule=("yeas", 0, ("parameter", 0))), parameters=(4,), number=0)
        self.refused(BadRule, entry_type(rule=("yeas", 0, 3)), seats=((0, 1, None),), number=0)
        self.refused(BadRule, entry_type(rule=("majority", 0, "seats")), seats=((0, None),), number=0)

    def test_one_that_passes_when_all_are_absent(self):
        self.refused(BadRule, entry_type(rule=("yeas", 0, 0)), number=0)
        self.refused(BadRule, entry_type(rule=("fraction", 0, 2, 3, "voting")), number=0)
        self.refused(BadRule, entry_type(rule=("any", ("premier",), ("quorum", 0, 0))), number=0)
        self.refused(BadRule, entry_type(rule=("yeas", 0, ("parameter", 0))), parameters=(0,), number=0)
        self.valid(entry_type(rule=("all", ("premier",), ("yeas", 0, 0))))
        self.refused(BadRule, entry_type(rule=("fraction", 0, 1, 2, "seats")), seats=((),), number=0)

    def test_members_without_a_seat(self):
        self.valid(entry_type(rule=("premier",)), seats=((0, 1),), premier=2)
        self.valid(entry_type(rule=("premier",)), members=12, premier=11)


class CheckOrderTest(CheckCase):
    def test_each_error_before_those_behind_it(self):
        wrong = (BAD_DEPENDENCY, MISSING_DEPENDENCY, BAD_RULE)
        self.refused(BadSeats, *wrong, **BAD_SEATS, **BAD_AMOUNTS, **BAD_PREMIER)
        self.refused(BadSeats, PLAIN, **BAD_SEATS, **BAD_PREMIER)
        self.refused(BadAmounts, *wrong, **BAD_AMOUNTS, **BAD_PREMIER)
        self.refused(BadPremier, *wrong, **BAD_PREMIER)
        self.refused(BadDependency, BAD_DEPENDENCY, number=0)
        self.refused(MissingDependency, MISSING_DEPENDENCY, number=0)
        self.refused(BadRule, BAD_RULE, number=0)

    def test_one_type_after_the_other(self):
        errors = {
            BAD_DEPENDENCY: BadDependency, MISSING_DEPENDENCY: MissingDependency, BAD_RULE: BadRule,
        }
        for one, other in itertools.permutations(errors, 2):
            self.refused(errors[one], one, other, number=0)
            self.refused(errors[one], PLAIN, one, other, number=1)


class EdgesTest(Case):
    def test_types_without_edges(self):
        self.same(edges(charter_of(PLAIN)), ())
        self.same(edges(charter_of(PLAIN, PLAIN, entry_type(cured=((0, 4),)), PLAIN)), ((2, 0, "cure", 4),))

    def test_the_order_of_the_numbers(self):
        one = entry_type(basis=((1, 4), (0, 0)), annulled=((1, 1),), cured=((0, 2), (1, 12)), ratified=((1, 3),))
        other = entry_type(basis=((1, 12),), annulled=((1, 2), (0, 2)))
        self.same(edges(charter_of(one, other)), (
            (0, 1, "basis", 4), (0, 0, "basis", 0), (0, 1, "annul", 1), (0, 0, "cure", 2), (0, 1, "cure", 12),
            (0, 1, "ratify", 3), (1, 1, "basis", 12), (1, 1, "annul", 2), (1, 0, "annul", 2),
        ))

    def test_only_those_of_the_basis_are_backward(self):
        self.same([is_backward((0, 0, kind, 1)) for kind in ("basis", "annul", "cure", "ratify")], [
            True, False, False, False])


class WritersTest(Case):
    def test_each_component(self):
        kinds = (
            "none", "seats", "parameters", "statute", "bill", "report", "budget", "payments", "appointment", "petition",
        )
        charter = charter_of(*map(entry_type, kinds))
        self.same(writers(charter, "seats"), (1,))
        self.same(writers(charter, "parameters"), (2,))
        self.same(writers(charter, "statutes"), (3,))
        self.same(writers(charter, "treasury"), (6, 7))
        self.same(writers(charter, "premier"), (8,))

    def test_none_and_several(self):
        charter = charter_of(*map(entry_type, ("seats", "payments", "seats", "none", "budget", "seats")))
        self.same(writers(charter, "seats"), (0, 2, 5))
        self.same(writers(charter, "treasury"), (1, 4))
        self.same(writers(charter, "premier"), ())
        self.same(writers(charter_of(PLAIN), "statutes"), ())


class PivotalMemberTest(Case):
    def test_the_premier(self):
        for premier in range(3):
            self.same(pivotal_member(charter_of(PLAIN, premier=premier), 0), premier)
        self.same(pivotal_member(charter_of(PLAIN, seats=(), premier=2), 0), 2)

    def test_one_of_several_seats(self):
        self.same(pivotal_member(charter_of(entry_type(rule=("majority", 0, "seats"))), 0), 1)
        self.same(pivotal_member(charter_of(entry_type(rule=("yeas", 0, 3))), 0), 2)
        self.same(pivotal_member(charter_of(entry_type(rule=("yeas", 0, 1))), 0), 0)
        self.same(pivotal_member(charter_of(entry_type(rule=("quorum", 0, 2)), seats=((None, 2, 1, 0),)), 0), 1)
        self.same(pivotal_member(charter_of(entry_type(rule=("quorum", 0, 2)), seats=((2, None, 0),)), 0), 2)

    def test_several_chambers(self):
        rule = ("all", ("yeas", 0, 1), ("yeas", 1, 1))
        self.same(pivotal_member(charter_of(entry_type(rule=rule), seats=((0, 1), (2, 1))), 0), 1)
        rule = ("any", ("premier",), ("yeas", 1, 2))
        self.same(pivotal_member(charter_of(entry_type(rule=rule), seats=((0, 1), (2, 1)), premier=1), 0), 1)
        self.same(pivotal_member(charter_of(entry_type(rule=rule), seats=((0, 1), (0, 1)), premier=2), 0), 1)

    def test_parameters(self):
        charter = charter_of(entry_type(rule=("yeas", 0, ("parameter", 1))), parameters=(1, 3))
        self.same(pivotal_member(charter, 0), 2)

    def test_the_type_with_the_number(self):
        charter = charter_of(entry_type(rule=("yeas", 0, 3)), entry_type(rule=("yeas", 0, 2)), PLAIN)
        self.same([pivotal_member(charter, number) for number in range(3)], [2, 1, 0])

    def test_there_is_exactly_one_under_a_valid_charter(self):
        seats = ((2, 0, None, 1), (3, 1))
        parts = [*SIMPLE_RULES, *[in_chamber(rule, 1) for rule in SIMPLE_RULES], ("premier",)]
        rules = parts + [(word, *pair) for word in ("all", "any") for pair in itertools.product(parts, repeat=2)]
        found = 0
        for rule in rules:
            charter = charter_of(entry_type(rule=rule), members=5, seats=seats, parameters=(1, 3), premier=4)
            try:
                check_charter(charter)
            except BadRule:
                continue
            results = [
                passes(rule, seats, "Y" * many + "-" * (5 - many), parameters=(1, 3), premier=4)
                for many in range(6)
            ]
            pivotal = [member for member in range(5) if not results[member] and results[member + 1]]
            self.same([pivotal_member(charter, 0)], pivotal)
            found += 1
        self.assertGreater(found, 200)


if __name__ == "__main__":
    unittest.main()
