"""Point 7 and the interface's section gazette/errors.py."""

import unittest

from gazette import errors
from support import Case

PLAIN = (
    "NotReadOnce", "NotInOrder", "Conflicting", "TotalsDiffer", "BadSeats", "BadAmounts",
    "BadPremier", "NotUnsafe", "RecordFull", "NothingToUndo",
)
NUMBERED = ("BadDependency", "MissingDependency", "BadRule", "SittingOutOfOrder", "NotDetermined")
OTHERS = ("BadEntry", "UnsafeCharter", "CircularRecord", "TooManyOpen")


class ErrorsTest(Case):
    def test_base_class(self):
        self.assertEqual(errors.GazetteError.__bases__, (ValueError,))

    def test_each_derives_from_the_base_class_alone(self):
        for name in PLAIN + NUMBERED + OTHERS:
            self.assertEqual(getattr(errors, name).__bases__, (errors.GazetteError,), name)

    def test_defined_in_this_file_and_complete(self):
        found = {name for name, value in vars(errors).items() if isinstance(value, type)}
        self.assertEqual(found, {"GazetteError", *PLAIN, *NUMBERED, *OTHERS})
        for name in found:
            self.assertEqual(getattr(errors, name).__module__, "gazette.errors")

    def test_no_attributes(self):
        for name in PLAIN:
            self.assertEqual(vars(getattr(errors, name)("words")), {}, name)
            self.assertEqual(vars(getattr(errors, name)()), {}, name)

    def test_number(self):
        for name in NUMBERED:
            self.assertEqual(vars(getattr(errors, name)(3)), {"number": 3}, name)

    def test_number_and_reason(self):
        self.assertEqual(vars(errors.BadEntry(4, "roll call")), {"number": 4, "reason": "roll call"})

    def test_cycle_circle_and_count(self):
        self.assertEqual(vars(errors.UnsafeCharter((0, 2))), {"cycle": (0, 2)})
        self.assertEqual(vars(errors.CircularRecord((1, 3, 2))), {"circle": (1, 3, 2)})
        self.assertEqual(vars(errors.TooManyOpen(9)), {"count": 9})

    def test_have_words(self):
        made = [getattr(errors, name)(1) for name in NUMBERED]
        made += [errors.BadEntry(1, "basis"), errors.UnsafeCharter((1,)), errors.CircularRecord((1,))]
        made += [errors.TooManyOpen(9)]
        for error in made:
            self.assertNotEqual(str(error), "")

    def test_caught_as_a_gazette_error_and_as_a_value_error(self):
        for kind in (errors.GazetteError, ValueError):
            with self.assertRaises(kind):
                raise errors.BadEntry(0, "type")


if __name__ == "__main__":
    unittest.main()
