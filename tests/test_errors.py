"""The refusals: what stands under what, and the field name."""

import unittest

from wakefew import errors

PLAIN = ("NoRule", "NoStretch", "NoRounds", "Past", "NoWeight", "NoTime", "NoText", "NoRow")
NAMED = ("Twice", "NoBell", "NoGroup", "TooDeep")


class WhatStandsUnderWhat(unittest.TestCase):
    def test_wake_error_is_a_value_error(self):
        self.assertTrue(issubclass(errors.WakeError, ValueError))

    def test_each_is_a_wake_error(self):
        for name in PLAIN + NAMED:
            with self.subTest(name):
                self.assertTrue(issubclass(getattr(errors, name), errors.WakeError))
                self.assertIsNot(getattr(errors, name), errors.WakeError)

    def test_none_is_under_another_one(self):
        for name in PLAIN + NAMED:
            for other in PLAIN + NAMED:
                if name != other:
                    with self.subTest(name, other=other):
                        self.assertFalse(issubclass(getattr(errors, name), getattr(errors, other)))

    def test_wake_error_is_under_none_of_them(self):
        for name in PLAIN + NAMED:
            self.assertFalse(issubclass(errors.WakeError, getattr(errors, name)))


class Raised(unittest.TestCase):
    def test_plain_ones_are_taken_as_wake_error_and_value_error(self):
        for name in PLAIN:
            for taken in (errors.WakeError, ValueError):
                with self.subTest(name, taken=taken), self.assertRaises(taken):
                    raise getattr(errors, name)("some words")

    def test_named_ones_have_their_name(self):
        for name in NAMED:
            for bell in ("a", "tea", "abcdefgh"):
                with self.subTest(name, bell=bell):
                    with self.assertRaises(errors.WakeError) as taken:
                        raise getattr(errors, name)(bell)
                    self.assertEqual(taken.exception.name, bell)

    def test_each_has_a_name_of_its_own(self):
        one, other = errors.NoBell("one"), errors.NoBell("other")
        self.assertEqual((one.name, other.name), ("one", "other"))


if __name__ == "__main__":
    unittest.main()
