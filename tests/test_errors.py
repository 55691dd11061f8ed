import unittest

from greenturns import errors

NAMES = ["BadSize", "BadClash", "NoStream", "BadWish", "BadNote"]


class TestErrors(unittest.TestCase):
    def test_turn_error_stands_under_value_error(self):
        self.assertEqual(errors.TurnError.__bases__, (ValueError,))

    def test_each_stands_under_turn_error_and_value_error(self):
        for name in NAMES:
            with self.subTest(name=name):
                kind = getattr(errors, name)
                self.assertTrue(issubclass(kind, errors.TurnError))
                self.assertTrue(issubclass(kind, ValueError))
                self.assertIsNot(kind, errors.TurnError)
                self.assertEqual(kind.__name__, name)

    def test_none_stands_under_another(self):
        for name in NAMES:
            for other in NAMES:
                if name != other:
                    with self.subTest(name=name, other=other):
                        self.assertFalse(issubclass(getattr(errors, name), getattr(errors, other)))

    def test_turn_error_stands_under_none_of_them(self):
        for name in NAMES:
            with self.subTest(name=name):
                self.assertFalse(issubclass(errors.TurnError, getattr(errors, name)))

    def test_each_can_be_raised_and_taken_as_a_refusal(self):
        for name in NAMES:
            with self.subTest(name=name):
                with self.assertRaises(errors.TurnError):
                    raise getattr(errors, name)("some words")


if __name__ == "__main__":
    unittest.main()
