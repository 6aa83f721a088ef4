import unittest

from rightskept.errors import RightsError, TextError


class ErrorsTest(unittest.TestCase):
    def test_rights_error(self):
        error = RightsError("no program")
        self.assertEqual(error.reason, "no program")
        self.assertIsInstance(error, ValueError)
        self.assertNotIsInstance(error, TextError)

    def test_text_error(self):
        error = TextError(3, "unexpected")
        self.assertEqual(error.line, 3)
        self.assertEqual(error.reason, "unexpected")
        self.assertIsInstance(error, RightsError)

    def test_they_are_raised_and_caught(self):
        with self.assertRaises(RightsError) as caught:
            raise TextError(0, "too short")
        self.assertEqual((caught.exception.line, caught.exception.reason), (0, "too short"))
        with self.assertRaises(ValueError):
            raise RightsError("other length")
