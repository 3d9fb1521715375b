"""Points 43 and 44: petitions."""

import itertools
import unittest

from gazette.petitions import further_signatures, qualifies, signatures_needed
from support import Case


class QualifiesTest(Case):
    def test_enough_signatures(self):
        self.same(qualifies((2, 3, 0, 0), ((0, 1), (0, 2), (1, 1))), True)
        self.same(qualifies((2, 3, 0, 0), ((0, 1), (0, 2))), False)
        self.same(qualifies((2, 3, 0, 0), ((0, 1), (0, 2), (1, 1), (1, 0))), True)

    def test_a_signature_twice(self):
        self.same(qualifies((2, 2, 0, 0), ((0, 1), (1, 2), (0, 1))), False)
        self.same(qualifies((2, 0, 0, 0), ((1, 1), (1, 1))), False)

    def test_a_signer_in_two_districts(self):
        self.same(qualifies((2, 2, 1, 2), ((0, 1), (1, 1))), True)

    def test_a_district_that_does_not_exist(self):
        self.same(qualifies((2, 0, 0, 0), ((0, 1), (2, 1))), False)
        self.same(qualifies((2, 0, 0, 0), ((0, 1), (1, 1))), True)
        self.same(qualifies((2, 2, 0, 0), ((0, 1), (0, 2), (9, 1))), False)

    def test_districts_with_enough_signatures(self):
        signatures = ((0, 1), (0, 2), (1, 1), (2, 1), (2, 2))
        self.same(qualifies((3, 0, 2, 2), signatures), True)
        self.same(qualifies((3, 0, 2, 3), signatures), False)
        self.same(qualifies((3, 0, 3, 1), signatures), False)
        self.same(qualifies((3, 0, 1, 3), signatures), True)
        self.same(qualifies((3, 0, 100, 0), signatures), True)

    def test_per_district_zero(self):
        self.same(qualifies((3, 1, 0, 3), ((0, 1),)), True)
        self.same(qualifies((3, 1, 0, 4), ((0, 1),)), False)

    def test_no_districts(self):
        self.same(qualifies((0, 0, 0, 0), ()), True)
        self.same(qualifies((0, 0, 5, 0), ()), True)
        self.same(qualifies((0, 0, 0, 1), ()), False)
        self.same(qualifies((0, 1, 0, 0), ()), False)
        self.same(qualifies((0, 0, 0, 0), ((0, 1),)), False)

    def test_no_signatures(self):
        self.same(qualifies((3, 0, 0, 3), ()), True)
        self.same(qualifies((3, 0, 1, 1), ()), False)
        self.same(qualifies((3, 1, 0, 0), ()), False)


class SignaturesNeededTest(Case):
    def check(self, threshold, counts, further):
        self.same(further_signatures(threshold, counts), further)
        self.same(signatures_needed(threshold, counts), None if further is None else sum(further))

    def test_districts_alone(self):
        self.check((3, 0, 4, 2), (1, 3, 0), (3, 1, 0))
        self.check((3, 0, 4, 3), (1, 3, 0), (3, 1, 4))
        self.check((3, 0, 4, 0), (1, 3, 0), (0, 0, 0))
        self.check((3, 0, 4, 1), (9, 3, 0), (0, 0, 0))

    def test_equal_shortfalls(self):
        self.check((3, 0, 2, 1), (), (2, 0, 0))
        self.check((3, 0, 2, 2), (), (2, 2, 0))
        self.check((3, 0, 2, 1), (0, 1, 1), (0, 1, 0))
        self.check((3, 0, 2, 2), (2, 0, 0), (0, 2, 0))
        self.check((4, 0, 5, 2), (3, 4, 3, 3), (2, 1, 0, 0))

    def test_total_alone(self):
        self.check((2, 9, 0, 0), (1, 2), (6, 0))
        self.check((2, 9, 0, 2), (), (9, 0))
        self.check((2, 3, 0, 0), (1, 2), (0, 0))
        self.check((2, 2, 0, 0), (9, 2), (0, 0))

    def test_total_beyond_the_districts(self):
        self.check((3, 10, 2, 2), (1, 1, 0), (1 + 6, 1, 0))
        self.check((3, 10, 4, 1), (0, 0, 3), (6, 0, 1))
        self.check((3, 5, 4, 1), (0, 1, 3), (0, 0, 1))
        self.check((3, 4, 4, 2), (0, 1, 3), (0, 3, 1))

    def test_a_negative_total_shortfall_takes_nothing_away(self):
        self.check((3, 1, 4, 2), (50, 0, 0), (0, 4, 0))

    def test_counts_beyond_the_end_and_of_districts_that_do_not_exist(self):
        self.check((3, 9, 0, 0), (4,), (5, 0, 0))
        self.check((2, 9, 0, 0), (1, 1, 100, 100), (7, 0))
        self.check((2, 9, 2, 2), (), (2 + 5, 2))

    def test_more_required_than_districts(self):
        self.check((2, 0, 0, 3), (5, 5), None)
        self.check((0, 0, 0, 1), (), None)

    def test_no_districts(self):
        self.check((0, 0, 0, 0), (), ())
        self.check((0, 0, 7, 0), (5,), ())
        self.check((0, 1, 0, 0), (), None)
        self.check((0, 1, 0, 0), (5,), None)

    def test_the_fewest_that_make_a_petition_qualify(self):
        """Compared with all ways to add up to four signatures to each of two districts."""
        for threshold in itertools.product((1, 2), (0, 1, 3), (0, 1, 2), (0, 1, 2)):
            districts = threshold[0]
            for counts in itertools.product(range(3), repeat=districts):
                enough = [
                    sum(added) for added in itertools.product(range(5), repeat=districts)
                    if qualifies(threshold, self.signed(counts, added))
                ]
                self.same(signatures_needed(threshold, counts), min(enough, default=None))
                further = further_signatures(threshold, counts)
                self.assertEqual(further is None, not enough)
                if further is not None:
                    self.same(qualifies(threshold, self.signed(counts, further)), True)

    def signed(self, counts, added):
        sums = [count + more for count, more in zip(counts, added)]
        return tuple((district, signer) for district, many in enumerate(sums) for signer in range(many))


if __name__ == "__main__":
    unittest.main()
