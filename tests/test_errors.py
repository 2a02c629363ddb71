import unittest

from rowguard.errors import GuardError, NoKind, NotFine, NotSo


class Errors(unittest.TestCase):
    def test_any_refusal_is_a_value_error(self):
        self.assertEqual(GuardError.__bases__, (ValueError,))

    def test_each_refusal_stands_right_under_guard_error(self):
        for refusal in (NoKind, NotFine, NotSo):
            self.assertEqual(refusal.__bases__, (GuardError,))

    def test_each_can_be_raised_with_words(self):
        for refusal in (GuardError, NoKind, NotFine, NotSo):
            with self.assertRaises(GuardError) as told:
                raise refusal("so")
            self.assertEqual(str(told.exception), "so")


if __name__ == "__main__":
    unittest.main()
