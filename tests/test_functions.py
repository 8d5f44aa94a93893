"""portolan.functions: point 2.1. The values are reckoned in decimal form, see decimals.py."""

import random
import unittest
from fractions import Fraction

from portolan import functions as f
from portolan.enclosures import contains
from portolan.errors import TooGreat
from portolan.errors import Undefined

from tests import decimals

BITS = [8, 9, 10, 31, 64, 100, 128, 159, 160]
# A part of them for what takes longer.
SOME_BITS = [8, 9, 64, 160]


def point(n, bits):
    return decimals.of_units(n, bits)


def least_of(values, bits):
    """The least enclosure of some values in decimal form."""
    return (decimals.floor_units(min(values), bits), decimals.ceiling_units(max(values), bits))


def near_half_pis(bits):
    """Whole numbers of units just below and above multiples of pi / 2."""
    found = []
    for k in (-40, -7, -3, -2, -1, 1, 2, 3, 4, 5, 39, 40):
        low = decimals.floor_units(k * decimals.pi() / 2, bits)
        found += [low - 1, low, low + 1, low + 2]
    return found


class Checked(unittest.TestCase):
    def check(self, name, a, bits, extra=()):
        """The values at the ends, inside, and at the places `extra` are in what is returned, which is narrow."""
        function = decimals.FUNCTIONS[self.word(name)]
        places = [point(n, bits) for n in {a[0], a[1], (a[0] + a[1]) // 2}] + list(extra)
        values = [function(place) for place in places]
        low, high = getattr(f, name)(a, bits)
        self.assertIsInstance(getattr(f, name)(a, bits), tuple)
        least = least_of(values, bits)
        with self.subTest(name=name, a=a, bits=bits, found=(low, high), least=least):
            self.assertLessEqual(low, least[0])
            self.assertGreaterEqual(high, least[1])
            self.assertLessEqual(high - low, least[1] - least[0] + 4)

    def word(self, name):
        return {"exponential": "exp", "logarithm": "log", "arctangent": "arctan"}.get(name, name)


class Pi(Checked):
    def test_pi(self):
        for bits in range(8, 161):
            low, high = f.pi_enclosed(bits)
            least = least_of([decimals.pi()], bits)
            self.assertLessEqual(low, least[0])
            self.assertGreaterEqual(high, least[1])
            self.assertLessEqual(high - low, 5)

    def test_known_fractions(self):
        # pi lies between these two.
        for bits in range(8, 161):
            low, high = f.pi_enclosed(bits)
            self.assertLess(Fraction(low, 2 ** bits), Fraction(314159265358979323846264338327950288419717,
                                                               10 ** 41))
            self.assertGreater(Fraction(high, 2 ** bits), Fraction(314159265358979323846264338327950288419716,
                                                                   10 ** 41))
        self.assertTrue(contains(f.pi_enclosed(8), 8, 355, 113))


class Waves(Checked):
    """Sine and cosine."""

    def test_one_angle(self):
        for bits in BITS:
            one = 1 << bits
            for name in ("sine", "cosine"):
                for n in [0, 1, -1, 2, one, -one, one + 1, 64 * one, -64 * one, 64 * one - 1, 1 - 64 * one]:
                    self.check(name, (n, n), bits)

    def test_near_half_pis(self):
        for bits in SOME_BITS:
            for n in near_half_pis(bits):
                for name in ("sine", "cosine"):
                    self.check(name, (n, n), bits)

    def test_some_units(self):
        chance = random.Random(1)
        for bits in BITS:
            for _ in range(8):
                n = chance.randint(-64 << bits, (64 << bits) - 9)
                for name in ("sine", "cosine"):
                    self.check_wave(name, (n, n + chance.randint(1, 9)), bits)

    def test_around_half_pis(self):
        for bits in SOME_BITS:
            for n in near_half_pis(bits):
                for name in ("sine", "cosine"):
                    self.check_wave(name, (n - 2, n + 1), bits)
                    self.check_wave(name, (n, n + (1 << bits)), bits)

    def test_wide(self):
        chance = random.Random(2)
        for bits in SOME_BITS:
            for _ in range(25):
                low = chance.randint(-64 << bits, 64 << bits)
                high = min(64 << bits, low + chance.randint(0, 8 << bits))
                for name in ("sine", "cosine"):
                    self.check_wave(name, (low, high), bits)
            for name in ("sine", "cosine"):
                self.assertEqual(getattr(f, name)((-64 << bits, 64 << bits), bits), (-1 << bits, 1 << bits))

    def check_wave(self, name, a, bits):
        extra = []
        for k in range(-41, 42):
            place = k * decimals.pi() / 2
            if decimals.floor_units(place, bits) >= a[0] and decimals.ceiling_units(place, bits) <= a[1]:
                extra.append(place)
        self.check(name, a, bits, extra)

    def test_at_zero(self):
        for bits in BITS:
            self.assertTrue(contains(f.sine((0, 0), bits), bits, 0, 1))
            self.assertTrue(contains(f.cosine((0, 0), bits), bits, 1, 1))

    def test_within_one(self):
        # Not promised of the functions, but papers rely on it.
        for bits in SOME_BITS:
            for n in near_half_pis(bits):
                for name in ("sine", "cosine"):
                    low, high = getattr(f, name)((n, n), bits)
                    self.assertTrue(-1 << bits <= low <= high <= 1 << bits)

    def test_too_great(self):
        for bits in BITS:
            edge = 64 << bits
            for name in ("sine", "cosine", "exponential"):
                function = getattr(f, name)
                for a in ((edge + 1, edge + 1), (0, edge + 1), (-edge - 1, 0), (-edge - 1, -edge - 1),
                          (-edge - 1, edge + 1), (10 ** 90, 10 ** 99)):
                    with self.assertRaises(TooGreat):
                        function(a, bits)


class Exponential(Checked):
    def test_one_number(self):
        for bits in BITS:
            one = 1 << bits
            edge = 64 << bits
            for n in (0, 1, -1, 5, -5, one, -one, one // 3, edge, -edge, edge - 1, 1 - edge, 40 * one + 7):
                self.check("exponential", (n, n), bits)

    def test_wide(self):
        chance = random.Random(3)
        for bits in BITS:
            edge = 64 << bits
            self.check("exponential", (-edge, edge), bits)
            for _ in range(10):
                low, high = sorted([chance.randint(-edge, edge), chance.randint(-edge, edge)])
                self.check("exponential", (low, high), bits)
                self.check("exponential", (low, min(edge, low + 3)), bits)

    def test_at_zero(self):
        for bits in BITS:
            self.assertTrue(contains(f.exponential((0, 0), bits), bits, 1, 1))


class Logarithm(Checked):
    def test_one_number(self):
        for bits in BITS:
            one = 1 << bits
            for n in (1, 2, 3, one - 1, one, one + 1, 2 * one, 3 * one, 64 * one, 10 ** 90, 10 ** 200 + 7):
                self.check("logarithm", (n, n), bits)

    def test_wide(self):
        chance = random.Random(4)
        for bits in BITS:
            self.check("logarithm", (1, 10 ** 90), bits)
            for _ in range(10):
                low, high = sorted([chance.randint(1, 9 << bits), chance.randint(1, 9 << bits)])
                self.check("logarithm", (low, high), bits)
                self.check("logarithm", (low, low + 3), bits)

    def test_undefined(self):
        for bits in BITS:
            for a in ((0, 0), (0, 5), (-5, 0), (-1, 5), (-9, -3)):
                with self.assertRaises(Undefined):
                    f.logarithm(a, bits)


class Arctangent(Checked):
    def test_one_number(self):
        for bits in BITS:
            one = 1 << bits
            for n in (0, 1, -1, one, -one, one + 1, one - 1, 1 - one, one // 2, 64 * one, -64 * one,
                      10 ** 90, -(10 ** 90), 10 ** 300):
                self.check("arctangent", (n, n), bits)

    def test_wide(self):
        chance = random.Random(5)
        for bits in BITS:
            self.check("arctangent", (-(10 ** 90), 10 ** 90), bits)
            for _ in range(8):
                low, high = sorted([chance.randint(-9 << bits, 9 << bits), chance.randint(-2 << bits, 2 << bits)])
                self.check("arctangent", (low, high), bits)
                self.check("arctangent", (low, low + 3), bits)


class Inverse(Checked):
    """Arcsine and arccosine."""

    def test_one_number(self):
        for bits in BITS:
            one = 1 << bits
            for name in ("arcsine", "arccosine"):
                for n in (0, 1, -1, one, -one, one - 1, 1 - one, one - 2, one // 2, -one // 2, one * 7 // 10):
                    self.check(name, (n, n), bits)

    def test_wide(self):
        chance = random.Random(6)
        for bits in BITS:
            one = 1 << bits
            for name in ("arcsine", "arccosine"):
                self.check(name, (-one, one), bits)
                self.check(name, (one - 3, one), bits)
                self.check(name, (-one, 4 - one), bits)
                for _ in range(8):
                    low, high = sorted([chance.randint(-one, one), chance.randint(-one, one)])
                    self.check(name, (low, high), bits)
                    self.check(name, (low, min(one, low + 3)), bits)

    def test_undefined(self):
        for bits in BITS:
            one = 1 << bits
            for name in ("arcsine", "arccosine"):
                for a in ((one + 1, one + 1), (0, one + 1), (-one - 1, 0), (-one - 1, -one - 1),
                          (-one - 1, one + 1), (one * 9, one * 99)):
                    with self.assertRaises(Undefined):
                        getattr(f, name)(a, bits)


class ManyBits(Checked):
    """The functions serve papers, which have up to 4096 bits."""

    def test_identities(self):
        for bits in (512, 2048, 4096):
            one = 1 << bits
            low, high = f.exponential(f.logarithm((3 * one, 3 * one), bits), bits)
            self.assertTrue(low <= 3 * one <= high and high - low < 32)
            low, high = f.sine(f.arcsine((one // 5, one // 5), bits), bits)
            self.assertTrue(low <= one // 5 <= high and high - low < 9)
            low, high = f.cosine(f.arccosine((-one // 5, -one // 5), bits), bits)
            self.assertTrue(low <= -one // 5 <= high and high - low < 9)
            # pi / 4 = arctan(1 / 2) + arctan(1 / 3), with units for the third.
            half = f.arctangent((one // 2, one // 2), bits)
            third = f.arctangent((one // 3, one // 3 + 1), bits)
            low, high = f.pi_enclosed(bits)
            self.assertTrue(4 * (half[0] + third[0]) <= high and low <= 4 * (half[1] + third[1]))
            self.assertLess(high - low, 5)
