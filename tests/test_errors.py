import unittest

from butfewrows import errors
from butfewrows.errors import InvalidText, MachineError

WITH_INDEX = ("BadSteps", "BadRow", "BadRows", "BadMachines")
WITHOUT_FIELDS = ("BadGood", "BadStand", "BadStep", "BadNumber", "BadHow", "NotComparable", "TooMany")


class ErrorTests(unittest.TestCase):
    def test_base_is_a_value_error(self):
        self.assertEqual(MachineError.__bases__, (ValueError,))

    def test_all_are_direct_subclasses_defined_there(self):
        for name in WITH_INDEX + WITHOUT_FIELDS + ("InvalidText",):
            with self.subTest(name):
                found = getattr(errors, name)
                self.assertEqual(found.__bases__, (MachineError,))
                self.assertEqual(found.__module__, "butfewrows.errors")

    def test_errors_with_an_index(self):
        for name in WITH_INDEX:
            for index in (None, 0, 7):
                with self.subTest(name, index=index):
                    error = getattr(errors, name)(index)
                    self.assertEqual(error.index, index)
                    self.assertTrue(str(error))

    def test_errors_without_fields(self):
        for name in WITHOUT_FIELDS:
            with self.subTest(name):
                self.assertEqual(vars(getattr(errors, name)("why")), {})

    def test_invalid_text_has_line_and_word(self):
        error = InvalidText(2, 3)
        self.assertEqual((error.line, error.word), (2, 3))


if __name__ == "__main__":
    unittest.main()
