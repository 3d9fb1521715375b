"""The examples of the interface, as they stand in DOC.md: one file examples/MODULE.txt for each module."""

import doctest
import unittest
from pathlib import Path

EXAMPLES = Path(__file__).resolve().parent / "examples"


def load_tests(loader, tests, pattern):
    suite = unittest.TestSuite()
    for path in sorted(EXAMPLES.glob("*.txt")):
        suite.addTest(doctest.DocFileSuite(str(path), module_relative=False))
    return suite
