"""The refusals [interface, lugtrain/errors.py]."""

import unittest

from lugtrain import errors

NAMES = [
    "NoTrain", "NoStand", "NoPaper", "NoBox", "NoSwitch", "NoPlace", "NoTable",
    "NoText", "NoRow", "NoPiece", "NothingLeft", "TooMany",
]


class Refusals(unittest.TestCase):
    def test_any_refusal_is_a_value_error(self):
        self.assertEqual(errors.TrainError.__bases__, (ValueError,))
        self.assertEqual(errors.TrainError.__name__, "TrainError")

    def test_each_stands_straight_under_train_error(self):
        for name in NAMES:
            refusal = getattr(errors, name)
            self.assertEqual(refusal.__name__, name)
            self.assertEqual(refusal.__bases__, (errors.TrainError,), name)
            self.assertTrue(issubclass(refusal, ValueError), name)

    def test_none_stands_under_another_one(self):
        for name in NAMES:
            for other in NAMES:
                under = issubclass(getattr(errors, name), getattr(errors, other))
                self.assertEqual(under, name == other, (name, other))

    def test_each_can_be_raised_and_taken_as_any_refusal(self):
        for name in NAMES:
            with self.assertRaises(errors.TrainError) as taken:
                raise getattr(errors, name)("why")
            self.assertIs(taken.exception.__class__, getattr(errors, name))


if __name__ == "__main__":
    unittest.main()
