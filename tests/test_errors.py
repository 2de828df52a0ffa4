"""Promise [4]."""
import unittest

from lookalike import errors

WITH_NUMBER = ["InvalidOrder", "InvalidText", "InvalidProgram", "InvalidCode", "InvalidPaper", "InvalidQuestion",
               "Refused"]


class ErrorsTest(unittest.TestCase):
    def test_families(self):
        self.assertEqual(errors.LookError.__bases__, (ValueError,))
        for name in [*WITH_NUMBER, "InvalidCommand"]:
            self.assertEqual(getattr(errors, name).__bases__, (errors.LookError,), name)

    def test_at_is_kept(self):
        for name in WITH_NUMBER:
            for at in (0, 7, -1, None, "x", (1, [2]), 10 ** 5000, True):
                error = getattr(errors, name)(at)
                self.assertIs(error.at, at)
                self.assertIs(getattr(errors, name)(at=at).at, at)
                self.assertIsInstance(str(error), str)

    def test_it_can_be_raised_and_caught(self):
        for name in WITH_NUMBER:
            with self.assertRaises(errors.LookError) as caught:
                raise getattr(errors, name)(3)
            self.assertEqual(caught.exception.at, 3)
        with self.assertRaises(ValueError):
            raise errors.InvalidCommand()

    def test_without_number(self):
        with self.assertRaises(TypeError):
            errors.InvalidOrder()
        self.assertFalse(hasattr(errors.InvalidCommand(), "at"))

    def test_no_error_equals_another_kind(self):
        for name in WITH_NUMBER:
            self.assertFalse(getattr(errors, name)(0) == 0)


if __name__ == "__main__":
    unittest.main()
