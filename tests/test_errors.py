"""Promise 2: the refusals, and that nothing handed in is changed."""

import copy
import unittest

from likeshards import errors
from likeshards.errors import NoCutting, NoName, NoText, ShardError
from likeshards.fields import is_field, look_field
from likeshards.fracs import frac_of, is_frac, look_prime, power_in, sum_of
from likeshards.spots import is_spot
from samples import ODD_THINGS, frac

PLAIN = (
    "NoNumber", "NoPrime", "NoField", "NoLine", "NoFrame", "NoDoor", "NoPaper", "NoAreas",
    "NoWay", "NoSpot", "NoMove", "NoBend", "TooMany", "NoRow",
)
HELD = (("NoCutting", "fault"), ("NoText", "at"), ("NoName", "name"))
NAMES = PLAIN + tuple(name for name, field in HELD)


class TestClasses(unittest.TestCase):
    def test_seventeen(self):
        self.assertEqual(17, len(set(NAMES)))
        self.assertTrue(issubclass(ShardError, ValueError))
        for name in NAMES:
            with self.subTest(name):
                self.assertTrue(issubclass(getattr(errors, name), ShardError))
                self.assertTrue(issubclass(getattr(errors, name), ValueError))
                self.assertIsNot(ShardError, getattr(errors, name))

    def test_none_under_another(self):
        for name in NAMES:
            for other in NAMES:
                if name != other:
                    with self.subTest(name=name, other=other):
                        self.assertFalse(issubclass(getattr(errors, name), getattr(errors, other)))

    def test_raised_and_caught(self):
        for name in NAMES:
            kind = getattr(errors, name)
            for caught in (kind, ShardError, ValueError):
                with self.subTest(name=name, caught=caught):
                    with self.assertRaises(caught):
                        raise kind("some text")

    def test_plain_ones_tell_their_text(self):
        for name in PLAIN:
            with self.subTest(name):
                self.assertIn("some text", str(getattr(errors, name)("some text")))


class TestHeld(unittest.TestCase):
    def test_anything_is_held(self):
        told = (("many",), ("left", (1, 2)), ("lap", 0, 1), {"a": [1]}, object(), 1.5, 10 ** 5000)
        for name, field in HELD:
            for thing in ODD_THINGS + told:
                with self.subTest(name=name):
                    self.assertIs(thing, getattr(getattr(errors, name)(thing), field))

    def test_each_holds_its_own(self):
        one, other = NoCutting(("piece", 0)), NoCutting(("piece", 1))
        self.assertEqual((("piece", 0), ("piece", 1)), (one.fault, other.fault))
        self.assertEqual((3, 4), (NoText(3).at, NoText(4).at))
        self.assertEqual(("a", "b"), (NoName("a").name, NoName("b").name))

    def test_they_can_be_shown(self):
        for name, field in HELD:
            self.assertIsInstance(str(getattr(errors, name)(("left", (10 ** 5000, 1)))), str)

    def test_one_argument(self):
        for name, field in HELD:
            with self.subTest(name):
                self.assertRaises(TypeError, getattr(errors, name))
                self.assertRaises(TypeError, getattr(errors, name), 1, 2)


class TestNothingChanged(unittest.TestCase):
    def test_list_of_sum(self):
        parts = [frac("1/2"), frac("-1/3"), frac(4)]
        kept = list(parts)
        self.assertEqual(frac("25/6"), sum_of(parts))
        self.assertEqual(kept, parts)
        self.assertEqual(frac("25/6"), sum_of(parts))

    def test_anything(self):
        for thing in ODD_THINGS:
            kept = copy.deepcopy(thing)
            for ask in (is_frac, is_spot, is_field):
                ask(thing)
            for look in (look_field, look_prime):
                with self.assertRaises(ShardError):
                    look(thing)
            self.assertEqual(kept, thing)
            self.assertEqual(repr(kept), repr(thing))


class TestRefused(unittest.TestCase):
    def test_what_is_raised_is_of_one_class(self):
        for call, kind in (
            (lambda: frac_of(1, 0), errors.NoNumber),
            (lambda: power_in((0, 1), 4), errors.NoPrime),
            (lambda: look_field(None), errors.NoField),
        ):
            with self.assertRaises(ShardError) as caught:
                call()
            self.assertIs(kind, type(caught.exception))


if __name__ == "__main__":
    unittest.main()
