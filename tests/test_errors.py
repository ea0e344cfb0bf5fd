"""The classes of refusals."""

import unittest

from platecuts import errors

NAMES = (
    "NoBlade", "NoKinds", "NoKind", "NoLying", "NoText", "NoPlate", "NoTree",
    "NoLaying", "TooLarge", "NoTable", "NoNumber", "NoWeights", "NoTelling",
)


class Classes(unittest.TestCase):
    def test_plate_error_is_under_value_error(self):
        self.assertEqual(errors.PlateError.__bases__, (ValueError,))

    def test_each_is_straight_under_plate_error(self):
        for name in NAMES:
            self.assertEqual(getattr(errors, name).__bases__, (errors.PlateError,), name)

    def test_none_is_under_another(self):
        for name in NAMES:
            for other in NAMES:
                under = issubclass(getattr(errors, name), getattr(errors, other))
                self.assertEqual(under, name == other, (name, other))

    def test_the_names_are_those_of_the_classes(self):
        for name in NAMES + ("PlateError",):
            self.assertEqual(getattr(errors, name).__name__, name)
            self.assertEqual(getattr(errors, name).__module__, "platecuts.errors")

    def test_there_are_no_others(self):
        found = [name for name in vars(errors) if isinstance(vars(errors)[name], type)]
        self.assertEqual(sorted(found), sorted(NAMES + ("PlateError",)))


if __name__ == "__main__":
    unittest.main()
