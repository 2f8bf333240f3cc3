import unittest

from stairsum import errors

NAMES = [
    "NoStair", "NoCount", "TooMany", "NoPower", "NoBounds", "NoSteps", "NoRise", "NoPartner", "NoRing",
    "NoCoins", "NoEntry", "NothingLeft", "NoText", "NoName", "NoRow", "NoWalker",
]


class ErrorClasses(unittest.TestCase):

    def test_stair_error_is_straight_under_value_error(self):
        self.assertEqual(errors.StairError.__bases__, (ValueError,))

    def test_each_stands_straight_under_stair_error(self):
        for name in NAMES:
            with self.subTest(name=name):
                self.assertEqual(getattr(errors, name).__bases__, (errors.StairError,))
                self.assertEqual(getattr(errors, name).__name__, name)

    def test_none_stands_under_another_one(self):
        for name in NAMES:
            for other in NAMES:
                if name != other:
                    self.assertFalse(issubclass(getattr(errors, name), getattr(errors, other)), (name, other))

    def test_each_is_caught_as_any_refusal(self):
        for name in NAMES:
            with self.assertRaises(errors.StairError):
                raise getattr(errors, name)("why")


if __name__ == "__main__":
    unittest.main()
