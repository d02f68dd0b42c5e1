"""The error classes: [16] and the interface of wheeltrain/errors.py."""

import unittest

from wheeltrain import errors

KINDS = ["BadRatio", "BadTrain", "BadShop", "BadPairs", "BadPlace", "BadWheel", "TooLong", "NoText"]


class TestErrors(unittest.TestCase):
    def test_any_refusal_is_a_value_error(self):
        self.assertEqual(errors.TrainError.__bases__, (ValueError,))

    def test_each_kind_stands_straight_under_train_error(self):
        for name in KINDS:
            with self.subTest(name=name):
                self.assertEqual(getattr(errors, name).__bases__, (errors.TrainError,))

    def test_each_kind_is_none_of_the_other_seven(self):
        for name in KINDS:
            refusal = getattr(errors, name)("told")
            self.assertIsInstance(refusal, errors.TrainError)
            self.assertIsInstance(refusal, ValueError)
            held = [other for other in KINDS if isinstance(refusal, getattr(errors, other))]
            self.assertEqual(held, [name])


if __name__ == "__main__":
    unittest.main()
