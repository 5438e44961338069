"""Point 2 and the interface: how the refusals stand under one another."""

import unittest

from bearfaults import errors

NAMES = (
    "TooLong", "NoForm", "NoPlace", "Twice", "Full", "NoWire", "Open",
    "NotPlain", "NotThree", "NotSound", "NoFit", "NoShape", "NoneYet",
)


class Refusals(unittest.TestCase):

    def test_fault_error_is_a_value_error(self):
        self.assertTrue(issubclass(errors.FaultError, ValueError))

    def test_each_stands_under_fault_error(self):
        for name in NAMES:
            with self.subTest(name=name):
                refusal = getattr(errors, name)
                self.assertEqual(refusal.__name__, name)
                self.assertTrue(issubclass(refusal, errors.FaultError))
                self.assertIsNot(refusal, errors.FaultError)
                self.assertIsInstance(refusal("words"), ValueError)

    def test_none_stands_under_another(self):
        for name in NAMES:
            for other in NAMES:
                if name != other:
                    with self.subTest(name=name, other=other):
                        self.assertFalse(issubclass(getattr(errors, name), getattr(errors, other)))

    def test_fault_error_stands_under_none_of_them(self):
        for name in NAMES:
            self.assertFalse(issubclass(errors.FaultError, getattr(errors, name)))


if __name__ == "__main__":
    unittest.main()
