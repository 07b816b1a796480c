import unittest

from halfask import errors
from halfask.errors import Busy, HalfError, Idle, NoHand, NoKeeper, NoLetter, NoLine

REFUSALS = (NoHand, NoKeeper, NoLetter, Busy, Idle, NoLine)


class ErrorsTest(unittest.TestCase):
    def test_half_error_stands_straight_under_value_error(self):
        self.assertEqual(HalfError.__bases__, (ValueError,))

    def test_each_refusal_stands_straight_under_half_error(self):
        for refusal in REFUSALS:
            with self.subTest(refusal=refusal.__name__):
                self.assertEqual(refusal.__bases__, (HalfError,))

    def test_each_refusal_is_taken_as_itself_and_as_any_refusal(self):
        for refusal in REFUSALS:
            for taken in (refusal, HalfError, ValueError):
                with self.subTest(refusal=refusal.__name__, taken=taken.__name__):
                    with self.assertRaises(taken):
                        raise refusal("some words")

    def test_no_refusal_passes_for_another(self):
        for refusal in REFUSALS:
            others = [other for other in REFUSALS if issubclass(refusal, other)]
            self.assertEqual(others, [refusal])

    def test_names(self):
        for name in ("HalfError", "NoHand", "NoKeeper", "NoLetter", "Busy", "Idle", "NoLine"):
            self.assertEqual(getattr(errors, name).__name__, name)


if __name__ == "__main__":
    unittest.main()
