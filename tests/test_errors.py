import unittest

from rimread import errors

REFUSALS = (
    "NoWorth", "NoAnswer", "NoNet", "Loose", "NoPlane", "TooMany", "NoStep", "NotLean", "Unlike",
    "NoCorner", "NoRegion", "Taken", "NoWire", "NoText", "NoRow",
)


class ErrorsTest(unittest.TestCase):
    def test_rim_error_stands_under_value_error(self):
        self.assertEqual(errors.RimError.__bases__, (ValueError,))

    def test_fifteen_stand_straight_under_rim_error(self):
        self.assertEqual(len(REFUSALS), 15)
        for name in REFUSALS:
            with self.subTest(name=name):
                self.assertEqual(getattr(errors, name).__bases__, (errors.RimError,))

    def test_none_stands_under_another(self):
        for name in REFUSALS:
            for other in REFUSALS:
                if name != other:
                    with self.subTest(name=name, other=other):
                        self.assertFalse(issubclass(getattr(errors, name), getattr(errors, other)))

    def test_each_is_raised_and_taken_as_a_refusal(self):
        for name in REFUSALS:
            with self.subTest(name=name):
                with self.assertRaises(errors.RimError):
                    raise getattr(errors, name)("refused")


if __name__ == "__main__":
    unittest.main()
