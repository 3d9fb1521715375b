"""Points 5 and 6: a call changes no argument, and a second question is answered as the first time."""

import copy
import unittest

from gazette.blanks import highest_passing, passes_amount
from gazette.isolation import no_show, pairing, parting_counts, passes_at
from gazette.rules import named, passes
from gazette.tallies import tally
from gazette.whips import decisive_absences, decisive_yeas, is_read_once, least_absences, least_yeas

SEATS = ((0, 1, None, 1), (2, None, 3))
RULE = ("all", ("any", ("premier",), ("yeas", 0, ("parameter", 0))), ("fraction", 1, 1, 2, "voting"))
ONCE = ("any", ("all", ("yeas", 0, ("parameter", 0)), ("quorum", 2, 1)), ("majority", 1, "seats"))
OPTIONS = {"parameters": (2, 1), "premier": 3}
NUMBERS = {"parameters": (2, 1)}

VOTES = [
    (tally, (SEATS, "YNP", 0), {}),
    (passes, (RULE, SEATS, "YYN"), OPTIONS),
    (passes, (RULE, SEATS, "YYNY"), {}),
    (named, (RULE,), {}),
    (passes_at, (RULE, 5, (2, 1, 1)), NUMBERS),
    (no_show, (("all", RULE, ("quorum", 0, 3)), 5), NUMBERS),
    (pairing, (RULE, 4), NUMBERS),
    (parting_counts, (RULE, ONCE, 4), NUMBERS),
    (passes_amount, (RULE, SEATS, (5, 9, 2), 3), OPTIONS),
    (highest_passing, (RULE, SEATS, (5, 9, 2), 100), OPTIONS),
    (is_read_once, (ONCE,), {}),
    (least_yeas, (ONCE, (3, 5, 2)), NUMBERS),
    (least_absences, (ONCE, (3, 5, 2)), NUMBERS),
    (decisive_yeas, (ONCE, (3, 5, 2)), NUMBERS),
    (decisive_absences, (ONCE, (3, 5, 2)), NUMBERS),
]
CALLS = VOTES


def answer(call):
    function, arguments, options = call
    return repr(function(*arguments, **options))


class RepeatedTest(unittest.TestCase):
    def test_the_same_answers_in_any_order(self):
        first = [answer(call) for call in CALLS]
        again = [answer(call) for call in reversed(CALLS)]
        self.assertEqual(first, again[::-1])
        for call, expected in zip(CALLS, first):
            self.assertEqual(answer(call), answer(call))
            self.assertEqual(answer(call), expected)

    def test_arguments_are_not_changed(self):
        for call in CALLS:
            _, arguments, options = call
            before = repr(copy.deepcopy((arguments, options)))
            answer(call)
            self.assertEqual(repr((arguments, options)), before)


if __name__ == "__main__":
    unittest.main()
