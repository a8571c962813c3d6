import unittest

from lendyard.errors import Knotted, LoanError, NoAmount, NotFree, NotLent, NoWorker, OverClaim

REFUSALS = (NoWorker, NoAmount, OverClaim, NotFree, Knotted, NotLent)


class LoanErrorTest(unittest.TestCase):
    def test_stands_right_under_value_error(self):
        self.assertEqual(LoanError.__bases__, (ValueError,))

    def test_can_be_raised_and_taken_as_value_error(self):
        with self.assertRaises(ValueError):
            raise LoanError("refused")


class RefusalsTest(unittest.TestCase):
    def test_each_bears_its_name(self):
        self.assertEqual(
            [refusal.__name__ for refusal in REFUSALS],
            ["NoWorker", "NoAmount", "OverClaim", "NotFree", "Knotted", "NotLent"],
        )

    def test_each_stands_right_under_loan_error(self):
        for refusal in REFUSALS:
            with self.subTest(refusal=refusal.__name__):
                self.assertEqual(refusal.__bases__, (LoanError,))

    def test_none_stands_under_another(self):
        for one in REFUSALS:
            for other in REFUSALS:
                with self.subTest(one=one.__name__, other=other.__name__):
                    self.assertEqual(issubclass(one, other), one is other)

    def test_loan_error_stands_under_none_of_them(self):
        for refusal in REFUSALS:
            with self.subTest(refusal=refusal.__name__):
                self.assertFalse(issubclass(LoanError, refusal))

    def test_each_can_be_raised_with_words_and_without(self):
        for refusal in REFUSALS:
            with self.subTest(refusal=refusal.__name__):
                with self.assertRaises(LoanError) as taken:
                    raise refusal("some words")
                self.assertIs(type(taken.exception), refusal)
                self.assertEqual(str(taken.exception), "some words")
                with self.assertRaises(ValueError):
                    raise refusal()


if __name__ == "__main__":
    unittest.main()
