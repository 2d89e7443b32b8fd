"""The errors of the interface."""

import unittest

from nestcall.errors import BadAct, BadGuard, BadHouse, BadPaper, BadText, HouseError, TooLarge

WITH_AT = (BadText, BadAct, BadGuard, BadPaper)
WITH_WHAT = (TooLarge, BadHouse)


class ErrorsTest(unittest.TestCase):
    def test_base(self):
        self.assertTrue(issubclass(HouseError, ValueError))

    def test_with_at(self):
        for error in WITH_AT:
            for at in (0, 3, 1000):
                made = error(at)
                self.assertIsInstance(made, HouseError)
                self.assertIsInstance(made, ValueError)
                self.assertEqual(made.at, at)
                self.assertFalse(hasattr(made, "what"))

    def test_with_what(self):
        for error in WITH_WHAT:
            for what in ("states", "ways", "acts", "code", "assets"):
                made = error(what)
                self.assertIsInstance(made, HouseError)
                self.assertIsInstance(made, ValueError)
                self.assertEqual(made.what, what)
                self.assertFalse(hasattr(made, "at"))

    def test_none_under_another(self):
        for one in WITH_AT + WITH_WHAT:
            for other in WITH_AT + WITH_WHAT:
                self.assertEqual(issubclass(one, other), one is other)

    def test_raised_and_caught(self):
        for error in WITH_AT:
            with self.assertRaises(HouseError) as caught:
                raise error(7)
            self.assertEqual(caught.exception.at, 7)
        for error in WITH_WHAT:
            with self.assertRaises(HouseError) as caught:
                raise error("states")
            self.assertEqual(caught.exception.what, "states")


if __name__ == "__main__":
    unittest.main()
