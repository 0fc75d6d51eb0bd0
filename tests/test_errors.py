"""The classes of refusal."""

import unittest

from factloom import errors


class ErrorClasses(unittest.TestCase):
    def test_loom_error_is_a_value_error(self):
        self.assertEqual(errors.LoomError.__bases__, (ValueError,))

    def test_each_refusal_stands_below_loom_error(self):
        for name in ("BadHead", "BadGuard", "LooseBlank", "NotTold", "NoRule"):
            with self.subTest(name):
                refusal = getattr(errors, name)
                self.assertEqual(refusal.__name__, name)
                self.assertEqual(refusal.__bases__, (errors.LoomError,))

    def test_each_can_be_raised_with_words(self):
        for name in ("LoomError", "BadHead", "BadGuard", "LooseBlank", "NotTold", "NoRule"):
            with self.subTest(name):
                with self.assertRaises(ValueError) as caught:
                    raise getattr(errors, name)("some words")
                self.assertEqual(str(caught.exception), "some words")


if __name__ == "__main__":
    unittest.main()
