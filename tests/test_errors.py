"""portolan.errors."""

import unittest

from portolan import errors

NAMES = [
    "Undefined", "TooGreat", "Undecided", "NoPaper", "InvalidText", "InvalidPoint", "NoBearing",
    "NoMidpoint", "AtPole", "TooDeep", "NoPlace", "NoScales", "NoTile", "TooMany", "NoHalves", "InvalidLine",
]


class Errors(unittest.TestCase):
    def test_base(self):
        self.assertEqual(errors.PortolanError.__bases__, (ValueError,))

    def test_each_is_directly_below_the_base(self):
        for name in NAMES:
            with self.subTest(name):
                found = getattr(errors, name)
                self.assertEqual(found.__bases__, (errors.PortolanError,))
                self.assertEqual(found.__module__, "portolan.errors")

    def test_no_others(self):
        found = [name for name, value in vars(errors).items() if isinstance(value, type)]
        self.assertEqual(sorted(found), sorted(NAMES + ["PortolanError"]))

    def test_line(self):
        error = errors.InvalidLine(7)
        self.assertEqual(error.line, 7)
        with self.assertRaises(errors.PortolanError) as caught:
            raise errors.InvalidLine(12)
        self.assertEqual(caught.exception.line, 12)

    def test_raised(self):
        for name in NAMES[:-1]:
            with self.assertRaises(ValueError):
                raise getattr(errors, name)("why")
