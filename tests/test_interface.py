"""The names, arguments and default values of the interface, and the file in which each function stands."""

import importlib
import inspect
import unittest

SIGNATURES = {
    "tallies": {"tally": "(seats, roll_call, chamber)"},
    "rules": {
        "passes": "(rule, seats, roll_call, *, parameters=(), premier=None)",
        "named": "(rule)",
    },
    "isolation": {
        "passes_at": "(rule, size, counts, *, parameters=())",
        "no_show": "(rule, size, *, parameters=())",
        "pairing": "(rule, size, *, parameters=())",
        "parting_counts": "(first, second, size, *, parameters=())",
    },
    "blanks": {
        "passes_amount": "(rule, seats, maxima, amount, *, parameters=(), premier=None)",
        "highest_passing": "(rule, seats, maxima, cap, *, parameters=(), premier=None)",
    },
    "whips": {
        "is_read_once": "(rule)",
        "least_yeas": "(rule, sizes, *, parameters=())",
        "least_absences": "(rule, sizes, *, parameters=())",
        "decisive_yeas": "(rule, sizes, *, parameters=())",
        "decisive_absences": "(rule, sizes, *, parameters=())",
    },
}


class InterfaceTest(unittest.TestCase):
    def test_signatures(self):
        for module_name, functions in SIGNATURES.items():
            module = importlib.import_module("gazette." + module_name)
            for name, signature in functions.items():
                with self.subTest(module=module_name, function=name):
                    function = getattr(module, name)
                    self.assertTrue(inspect.isfunction(function))
                    self.assertEqual(str(inspect.signature(function)), signature)

    def test_each_function_stands_in_its_own_file(self):
        for module_name, functions in SIGNATURES.items():
            module = importlib.import_module("gazette." + module_name)
            for name in functions:
                self.assertEqual(getattr(module, name).__module__, "gazette." + module_name)


if __name__ == "__main__":
    unittest.main()
