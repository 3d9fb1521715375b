"""Calls on charters and records, safe ones and others, to be asked in any order."""

import random

from gazette.assignments import assignments
from gazette.bounds import finality, slack_bounds, verify_bounds
from gazette.certificates import certificate, closure, impact, verify_certificate
from gazette.charters import check_charter
from gazette.circles import dependency_cycle, determined
from gazette.counterexamples import counterexample, counterexample_of
from gazette.cycles import analyze, determinate_types, verify_cycle
from gazette.entries import cited, is_procedural, is_substantive, objections, revised, valid_under
from gazette.errors import GazetteError
from gazette.payloads import is_correct
from gazette.pruning import prune
from gazette.records import backward, check_record, forward
from gazette.reversals import latest_reversal, reversal_walk
from gazette.states import apply_payload, observed_state, start_state, state_after
from gazette.validity import evaluation_order, final_state, history, is_consistent, rounds, validity, was_valid
from samples import KINDS, some_charter, some_record, some_safe_charter
from support import charter_of, entry, entry_type

UNSAFE = charter_of(entry_type("appointment", basis=((0, 0),), annulled=((0, 2),)), entry_type(basis=((0, 12),)))
CIRCULAR = (
    entry(0, 0, basis=(None,)), entry(0, 1, basis=(0,), effect=("annul", 0)), entry(1, 1, basis=(None,)),
    entry(0, 1, basis=(None,)),
)
CURING = charter_of(entry_type(cured=((0, 4),)))
NUMBERS = random.Random(6)
SAFE = some_safe_charter(NUMBERS, 8, KINDS)
RECORD = some_record(NUMBERS, SAFE, 16)
OTHER = some_charter(NUMBERS, 4, KINDS)
OTHERS = some_record(NUMBERS, OTHER, 12)


def calls_on(charter, record):
    """Each function that a record is passed to, apart from those that refuse records with circles."""
    statuses = tuple(number % 3 != 1 for number in range(len(record)))
    last = len(record) - 1
    return [
        (check_charter, (charter,), {}),
        (analyze, (charter,), {}),
        (determinate_types, (charter,), {}),
        (verify_cycle, (charter, (0, 1)), {}),
        (check_record, (charter, record), {}),
        (backward, (charter, record, last), {}),
        (forward, (charter, record, 0), {}),
        (start_state, (charter,), {}),
        (apply_payload, (start_state(charter), ("appointment", None)), {}),
        (state_after, (charter, record, statuses), {}),
        (observed_state, (charter, record, statuses, last), {}),
        (is_correct, (charter, start_state(charter), 0, ("appointment", None), (None,)), {}),
        (cited, (charter, record, statuses, last), {}),
        (is_procedural, (charter, record, statuses, last), {}),
        (is_substantive, (charter, record, statuses, last), {}),
        (valid_under, (charter, record, statuses, last), {}),
        (objections, (charter, record, statuses, 1), {}),
        (revised, (charter, record, statuses), {}),
        (dependency_cycle, (charter, record), {}),
        (determined, (charter, record), {}),
        (is_consistent, (charter, record, statuses), {}),
        (rounds, (charter, record, statuses), {}),
        (evaluation_order, (charter, record), {}),
        (prune, (charter, record, statuses), {}),
        (counterexample, (charter,), {}),
        (slack_bounds, (charter,), {}),
        (verify_bounds, (charter, slack_bounds(charter)), {}),
        (closure, (charter, record, 0), {}),
        (verify_certificate, (charter, record, 0, ((0, True), (1, False))), {}),
    ]


CALLS_ON_RECORDS = calls_on(SAFE, RECORD) + calls_on(UNSAFE, CIRCULAR) + calls_on(OTHER, OTHERS) + [
    (validity, (SAFE, RECORD), {}),
    (final_state, (SAFE, RECORD), {}),
    (was_valid, (SAFE, RECORD, 9, 3), {}),
    (was_valid, (UNSAFE, CIRCULAR, 1, 0), {}),
    (history, (SAFE, RECORD, 2), {}),
    (assignments, (SAFE, RECORD), {}),
    (assignments, (UNSAFE, CIRCULAR), {}),
    (counterexample_of, (UNSAFE, (0, 1)), {}),
    (finality, (SAFE,), {}),
    (reversal_walk, (CURING, 0), {"sitting": 6}),
    (latest_reversal, (CURING, 0), {"sitting": 6}),
    (latest_reversal, (CURING, 0), {}),
    (certificate, (SAFE, RECORD, 5), {}),
    (certificate, (UNSAFE, CIRCULAR, 2), {}),
    (impact, (SAFE, RECORD, 0, "annul", 15), {}),
]
REFUSED_ON_RECORDS = [
    (check_record, (SAFE, (entry(8),)), {}),
    (check_record, (UNSAFE, CIRCULAR[::-1]), {}),
    (check_record, (UNSAFE, (entry(1, 1, basis=(None,)), entry(1, 0, basis=(None,)))), {}),
    (validity, (UNSAFE, CIRCULAR), {}),
    (final_state, (UNSAFE, CIRCULAR), {}),
    (was_valid, (UNSAFE, CIRCULAR, 2, 0), {}),
    (history, (UNSAFE, CIRCULAR, 3), {}),
    (assignments, (UNSAFE, CIRCULAR[:2] + CIRCULAR[3:] * 7), {}),
    (counterexample_of, (UNSAFE, (1, 1)), {}),
    (finality, (UNSAFE,), {}),
    (reversal_walk, (UNSAFE, 0), {}),
    (latest_reversal, (UNSAFE, 0), {"sitting": 3}),
    (certificate, (UNSAFE, CIRCULAR, 3), {}),
    (impact, (UNSAFE, CIRCULAR, 0, "cure", 3), {}),
]


def answer(call):
    """What a call returns, what a generator yields, or the error with its attributes."""
    function, arguments, options = call
    try:
        if function is rounds:
            return repr(tuple(function(*arguments, **options)))
        return repr(function(*arguments, **options))
    except GazetteError as error:
        return repr((error, vars(error)))
