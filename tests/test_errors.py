"""The error classes of the interface."""

import unittest

from discwright import errors

PLAIN = (
    "DifferentLengths", "InvalidRead", "InvalidCell", "InvalidImage", "BadBytes", "InvalidDisc", "InvalidFiles",
    "NoFileSystem", "InvalidPlan", "InvalidUnknowns", "InvalidCase", "InvalidDump", "NoHeader", "InvalidPatch",
    "InvalidItem", "InvalidTask",
)
WITH_INDEX = ("InvalidSector", "NotTaken", "DoesNotFit")
WITH_LINE = ("InvalidLine",)


class ErrorsTest(unittest.TestCase):

    def test_all_are_subclasses_of_the_base_class(self):
        self.assertTrue(issubclass(errors.DiscError, ValueError))
        for name in PLAIN + WITH_INDEX + WITH_LINE:
            self.assertTrue(issubclass(getattr(errors, name), errors.DiscError), name)

    def test_none_is_a_subclass_of_another_one(self):
        names = PLAIN + WITH_INDEX + WITH_LINE
        for name in names:
            for other in names:
                if name != other:
                    self.assertFalse(issubclass(getattr(errors, name), getattr(errors, other)), (name, other))

    def test_fields(self):
        for name in WITH_INDEX:
            for index in (0, 7):
                self.assertEqual(getattr(errors, name)(index).index, index)
        for line in (1, 12):
            self.assertEqual(errors.InvalidLine(line).line, line)


if __name__ == "__main__":
    unittest.main()
