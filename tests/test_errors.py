"""The interface: the error classes."""

import unittest

from shredjoin import errors

NINE = ("NoText", "NoHeap", "NoPiece", "NoLine", "NoTexts", "NoNumber", "NoDeed", "Unlike", "Apart")


class ErrorClasses(unittest.TestCase):
    def test_shred_error_is_a_value_error(self):
        self.assertTrue(issubclass(errors.ShredError, ValueError))

    def test_each_of_the_nine_is_a_shred_error(self):
        for name in NINE:
            with self.subTest(name=name):
                self.assertTrue(issubclass(getattr(errors, name), errors.ShredError))
                self.assertTrue(issubclass(getattr(errors, name), ValueError))
                self.assertIsNot(getattr(errors, name), errors.ShredError)

    def test_none_of_the_nine_stands_under_another(self):
        for name in NINE:
            for other in NINE:
                if name != other:
                    with self.subTest(name=name, other=other):
                        self.assertFalse(issubclass(getattr(errors, name), getattr(errors, other)))

    def test_each_is_raised_and_caught_by_its_name(self):
        for name in NINE:
            with self.subTest(name=name):
                with self.assertRaises(getattr(errors, name)) as caught:
                    raise getattr(errors, name)("some words")
                self.assertEqual(str(caught.exception), "some words")
                self.assertEqual(type(caught.exception).__name__, name)


if __name__ == "__main__":
    unittest.main()
