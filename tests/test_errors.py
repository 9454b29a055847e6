import unittest

from unwind import errors

KINDS = ("NoBox", "NoFunction", "NoLoop", "TooDeep")


class ErrorsTest(unittest.TestCase):
    def test_a_refusal_is_a_value_error(self):
        self.assertEqual(errors.MillError.__bases__, (ValueError,))

    def test_each_kind_is_straight_under_the_refusal(self):
        for name in KINDS:
            with self.subTest(name):
                self.assertEqual(getattr(errors, name).__bases__, (errors.MillError,))

    def test_no_kind_is_another(self):
        for one in KINDS:
            for other in KINDS:
                if one != other:
                    self.assertFalse(issubclass(getattr(errors, one), getattr(errors, other)))


if __name__ == "__main__":
    unittest.main()
