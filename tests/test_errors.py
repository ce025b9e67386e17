"""0.3 and the interface of boxedroots/errors.py."""

import unittest

from boxedroots import errors
from boxedroots.errors import BadPoly, NoInteger, RootError
from boxedroots.polys import Poly
from helping import nested, odd_things

FIELDS = {
    "BadPoly": "index", "BadSystem": "part", "NoCover": "number", "BadNumber": "part", "NoWish": "index",
    "BadText": "at", "BadLine": "number", "NoName": "name", "TooMany": "most",
}
PLAIN = (
    "NoInteger NoUnknown NoNumber NoPoint NoDivisor NoChain NoPolynomial Unlike NoBox Double NoBoxing NoFraction "
    "NoWidth ByNought Below Endless NoLine NoPower"
).split()


class ErrorsTest(unittest.TestCase):
    def test_root_error_derives_directly_from_value_error(self):
        self.assertEqual(RootError.__bases__, (ValueError,))

    def test_each_derives_directly_from_root_error(self):
        for name in list(FIELDS) + PLAIN:
            self.assertEqual(getattr(errors, name).__bases__, (RootError,), name)

    def test_there_are_no_others(self):
        found = [name for name, thing in vars(errors).items() if isinstance(thing, type)]
        self.assertEqual(sorted(found), sorted(list(FIELDS) + PLAIN + ["RootError"]))

    def test_each_keeps_just_its_field(self):
        for name, field in FIELDS.items():
            self.assertEqual(vars(getattr(errors, name)(7)), {field: 7}, name)

    def test_the_others_keep_nothing(self):
        for name in PLAIN:
            self.assertEqual(vars(getattr(errors, name)()), {}, name)

    def test_whatever_is_passed_is_kept(self):
        things = odd_things() + [0.5, 1j, {1}, nested(Poly(()), 40, lambda thing: [thing])]
        for name, field in FIELDS.items():
            for thing in things:
                self.assertIs(getattr(getattr(errors, name)(thing), field), thing, name)

    def test_a_field_is_needed(self):
        for name in FIELDS:
            with self.assertRaises(TypeError):
                getattr(errors, name)()
            with self.assertRaises(TypeError):
                getattr(errors, name)(1, 2)

    def test_they_are_raised_and_caught(self):
        with self.assertRaises(ValueError):
            raise NoInteger()
        with self.assertRaises(RootError) as caught:
            raise BadPoly(5)
        self.assertEqual(caught.exception.index, 5)


if __name__ == "__main__":
    unittest.main()
