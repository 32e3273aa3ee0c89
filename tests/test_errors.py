"""The interface of fareweb/errors.py."""

import unittest

from fareweb import errors

KINDS = ["BadLink", "BadStop", "NoWay", "BadPrices", "BadZones", "PastDay"]


class Errors(unittest.TestCase):
    def test_fare_error_is_a_value_error(self):
        self.assertEqual(errors.FareError.__bases__, (ValueError,))
        self.assertEqual(errors.FareError.__module__, "fareweb.errors")

    def test_each_kind_stands_straight_under_fare_error(self):
        for name in KINDS:
            kind = getattr(errors, name)
            self.assertEqual(kind.__bases__, (errors.FareError,), name)
            self.assertEqual(kind.__module__, "fareweb.errors", name)
            self.assertEqual(kind.__name__, name)

    def test_no_kind_is_under_another(self):
        for name in KINDS:
            for other in KINDS:
                under = issubclass(getattr(errors, name), getattr(errors, other))
                self.assertEqual(under, name == other, (name, other))

    def test_each_kind_can_be_raised_and_is_taken_by_its_heads(self):
        for name in KINDS:
            for head in (errors.FareError, ValueError):
                with self.assertRaises(head):
                    raise getattr(errors, name)("why")


if __name__ == "__main__":
    unittest.main()
