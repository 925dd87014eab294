"""The refusals and how they stand under one another."""

import unittest

from strikewheel import errors

NAMES = [
    "NoWord", "NoWheel", "NoSlack", "Lacks", "NoPlace", "NoBook", "NoOrder",
    "TooMany", "NoBank", "NoTurns", "NoText", "NoName", "NoRow", "NoDeed",
]


class RefusalsTest(unittest.TestCase):
    def test_any_refusal_is_a_value_error(self):
        self.assertEqual(errors.WheelError.__bases__, (ValueError,))

    def test_each_stands_straight_under_wheel_error(self):
        for name in NAMES:
            with self.subTest(name=name):
                self.assertEqual(getattr(errors, name).__bases__, (errors.WheelError,))

    def test_each_has_its_own_name(self):
        for name in NAMES:
            with self.subTest(name=name):
                self.assertEqual(getattr(errors, name).__name__, name)

    def test_none_stands_under_another(self):
        for name in NAMES:
            for other in NAMES:
                if name != other:
                    with self.subTest(name=name, other=other):
                        self.assertFalse(issubclass(getattr(errors, name), getattr(errors, other)))

    def test_each_can_be_caught_as_any_refusal(self):
        for name in NAMES:
            for kind in (errors.WheelError, ValueError):
                with self.subTest(name=name, kind=kind), self.assertRaises(kind):
                    raise getattr(errors, name)("why")


if __name__ == "__main__":
    unittest.main()
