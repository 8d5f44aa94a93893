"""portolan.enclosures: points 1.1 to 1.4."""

import math
import random
import unittest
from fractions import Fraction

from portolan import enclosures as e
from portolan.errors import Undefined

BITS = [0, 1, 2, 5, 8, 64, 160, 4096]
FRACTIONS = [
    (0, 1), (0, 7), (1, 1), (-1, 1), (1, 3), (-1, 3), (5, 1), (-5, 1), (6, 3), (-6, 3), (7, 2), (-7, 2),
    (255, 256), (-257, 256), (1, 10 ** 50), (-1, 10 ** 50), (10 ** 60, 7), (-(10 ** 60), 7),
    (1, 10 ** 2000), (-1, 10 ** 2000), (10 ** 2000 + 1, 10 ** 2000),
]


def samples(seed, many):
    """Enclosures of many kinds: with either sign, on either side of 0, ending in 0, and of the width 0."""
    chance = random.Random(seed)
    ends = [0, 1, -1, 2, -2, 3, -3, 7, 255, 256, -256, 10 ** 9, -(10 ** 9), 10 ** 80, -(10 ** 80)]
    found = [(0, 0), (1, 1), (-1, -1), (-1, 1), (0, 5), (-5, 0), (-5, 7), (3, 9), (-9, -3)]
    while len(found) < many:
        low, high = sorted([chance.choice(ends), chance.randint(-1000, 1000) * chance.choice([1, 1, 10 ** 20])])
        found.append((low, high))
    return found


def least(values, bits):
    """The least enclosure of some fractions."""
    scaled = [Fraction(value) * 2 ** bits for value in values]
    return (math.floor(min(scaled)), math.ceil(max(scaled)))


def ends(a, bits):
    return [Fraction(a[0], 2 ** bits), Fraction(a[1], 2 ** bits)]


class Basics(unittest.TestCase):
    """Point 1.2."""

    def test_of_fraction(self):
        for bits in BITS:
            for p, q in FRACTIONS:
                with self.subTest(bits=bits, p=p, q=q):
                    self.assertEqual(e.of_fraction(bits, p, q), least([Fraction(p, q)], bits))

    def test_of_fraction_is_a_tuple(self):
        self.assertIsInstance(e.of_fraction(8, 1, 3), tuple)

    def test_hull(self):
        self.assertEqual(e.hull((1, 4), (2, 9)), (1, 9))
        self.assertEqual(e.hull((2, 9), (1, 4)), (1, 9))
        self.assertEqual(e.hull((1, 2), (7, 9)), (1, 9))
        self.assertEqual(e.hull((-5, 10), (0, 3)), (-5, 10))
        self.assertEqual(e.hull((3, 3), (3, 3)), (3, 3))

    def test_common(self):
        self.assertEqual(e.common((1, 4), (2, 9)), (2, 4))
        self.assertEqual(e.common((2, 9), (1, 4)), (2, 4))
        self.assertEqual(e.common((1, 4), (4, 9)), (4, 4))
        self.assertEqual(e.common((4, 9), (1, 4)), (4, 4))
        self.assertEqual(e.common((-5, 10), (0, 3)), (0, 3))
        self.assertEqual(e.common((0, 3), (-5, 10)), (0, 3))
        self.assertIsNone(e.common((1, 4), (5, 9)))
        self.assertIsNone(e.common((5, 9), (1, 4)))
        self.assertIsNone(e.common((-9, -8), (8, 9)))
        self.assertEqual(e.common((2, 2), (2, 2)), (2, 2))

    def test_is_within(self):
        self.assertIs(e.is_within((1, 4), (1, 4)), True)
        self.assertIs(e.is_within((2, 3), (1, 4)), True)
        self.assertIs(e.is_within((0, 3), (1, 4)), False)
        self.assertIs(e.is_within((2, 5), (1, 4)), False)
        self.assertIs(e.is_within((0, 5), (1, 4)), False)
        self.assertIs(e.is_within((4, 4), (1, 4)), True)
        self.assertIs(e.is_within((7, 9), (1, 4)), False)
        self.assertIs(e.is_within((-4, -1), (-4, 0)), True)

    def test_rescaled(self):
        for a in samples(1, 40):
            for bits in BITS:
                for other in BITS:
                    with self.subTest(a=a, bits=bits, other=other):
                        self.assertEqual(e.rescaled(a, bits, other), least(ends(a, bits), other))

    def test_rescaled_examples(self):
        self.assertEqual(e.rescaled((-3, 3), 2, 1), (-2, 2))
        self.assertEqual(e.rescaled((-3, 3), 2, 0), (-1, 1))
        self.assertEqual(e.rescaled((-3, 3), 2, 4), (-12, 12))
        self.assertEqual(e.rescaled((-4, -4), 2, 0), (-1, -1))
        self.assertEqual(e.rescaled((1, 1), 4096, 0), (0, 1))

    def test_contains(self):
        a = (-3, 5)
        for bits in (0, 3, 160):
            unit = 2 ** bits
            self.assertIs(e.contains(a, bits, -3, unit), True)
            self.assertIs(e.contains(a, bits, 5, unit), True)
            self.assertIs(e.contains(a, bits, 50, 10 * unit), True)
            self.assertIs(e.contains(a, bits, 0, 1), True)
            self.assertIs(e.contains(a, bits, -3 * 10 ** 90 - 1, unit * 10 ** 90), False)
            self.assertIs(e.contains(a, bits, 5 * 10 ** 90 + 1, unit * 10 ** 90), False)
            self.assertIs(e.contains(a, bits, 5 * 10 ** 90 - 1, unit * 10 ** 90), True)
        self.assertIs(e.contains((1, 1), 4096, 1, 2 ** 4096), True)
        self.assertIs(e.contains((1, 1), 4096, 1, 2 ** 4096 + 1), False)
        self.assertIs(e.contains((85, 86), 8, 1, 3), True)
        self.assertIs(e.contains((86, 87), 8, 1, 3), False)


class Arithmetic(unittest.TestCase):
    """Point 1.3: each result is the least enclosure of all results."""

    def test_sums(self):
        for a in samples(2, 30):
            self.assertEqual(e.negated(a), (-a[1], -a[0]))
            for b in samples(3, 30):
                self.assertEqual(e.added(a, b), least([x + y for x in a for y in b], 0))
                self.assertEqual(e.subtracted(a, b), least([x - y for x in a for y in b], 0))

    def test_multiplied(self):
        for bits in BITS:
            for a in samples(4, 24):
                for b in samples(5, 24):
                    wanted = least([x * y for x in ends(a, bits) for y in ends(b, bits)], bits)
                    self.assertEqual(e.multiplied(a, b, bits), wanted)

    def test_squared(self):
        for bits in BITS:
            for a in samples(6, 60):
                values = [x * x for x in ends(a, bits)]
                if a[0] <= 0 <= a[1]:
                    values.append(Fraction(0))
                self.assertEqual(e.squared(a, bits), least(values, bits))

    def test_divided(self):
        for bits in BITS:
            for a in samples(7, 24):
                for b in samples(8, 24):
                    if b[0] <= 0 <= b[1]:
                        with self.assertRaises(Undefined):
                            e.divided(a, b, bits)
                    else:
                        wanted = least([x / y for x in ends(a, bits) for y in ends(b, bits)], bits)
                        self.assertEqual(e.divided(a, b, bits), wanted)

    def test_divided_by_zero_at_an_end(self):
        for b in ((0, 0), (0, 3), (-3, 0), (-1, 1)):
            with self.assertRaises(Undefined):
                e.divided((1, 2), b, 8)
        self.assertEqual(e.divided((1, 2), (1, 3), 8), (85, 512))
        self.assertEqual(e.divided((1, 2), (-3, -1), 8), (-512, -85))

    def test_rooted(self):
        for bits in BITS:
            for a in samples(9, 80):
                if a[0] < 0:
                    with self.assertRaises(Undefined):
                        e.rooted(a, bits)
                    continue
                low, high = e.rooted(a, bits)
                self.assertTrue(0 <= low * low <= a[0] << bits < (low + 1) ** 2)
                self.assertTrue(high * high >= a[1] << bits and (high == 0 or (high - 1) ** 2 < a[1] << bits))

    def test_rooted_of_squares(self):
        self.assertEqual(e.rooted((4 << 20, 9 << 20), 20), (2 << 20, 3 << 20))
        self.assertEqual(e.rooted((0, 0), 20), (0, 0))
        with self.assertRaises(Undefined):
            e.rooted((-1, 5), 20)
        with self.assertRaises(Undefined):
            e.rooted((-1, -1), 0)

    def test_arguments_are_kept(self):
        for found in (e.multiplied((1, 2), (3, 4), 8), e.divided((1, 2), (3, 4), 8), e.rooted((1, 2), 8)):
            self.assertIsInstance(found, tuple)


class DecimalText(unittest.TestCase):
    """Point 1.4."""

    def test_examples(self):
        self.assertEqual(e.decimal_text((-3, 5), 2, 1), "-0.8..1.3")
        self.assertEqual(e.decimal_text((-3, 5), 2, 0), "-1..2")
        self.assertEqual(e.decimal_text((-3, 5), 2, 2), "-0.75..1.25")
        self.assertEqual(e.decimal_text((-3, 5), 2, 4), "-0.7500..1.2500")
        self.assertEqual(e.decimal_text((-3, 5), 0, 0), "-3..5")
        self.assertEqual(e.decimal_text((-3, 5), 0, 3), "-3.000..5.000")
        self.assertEqual(e.decimal_text((0, 0), 8, 0), "0..0")
        self.assertEqual(e.decimal_text((0, 0), 8, 2), "0.00..0.00")
        self.assertEqual(e.decimal_text((1, 3), 4096, 2), "0.00..0.01")
        self.assertEqual(e.decimal_text((-3, -1), 4096, 2), "-0.01..0.00")
        self.assertEqual(e.decimal_text((-3, -1), 4096, 0), "-1..0")
        self.assertEqual(e.decimal_text((-1, -1), 1, 1), "-0.5..-0.5")
        self.assertEqual(e.decimal_text((-21, -21), 1, 0), "-11..-10")

    def test_rounded_outwards(self):
        chance = random.Random(10)
        for _ in range(400):
            bits = chance.choice([0, 1, 8, 100, 4096])
            places = chance.choice([0, 1, 5, 60])
            low, high = sorted([chance.randint(-(2 ** bits) * 20, 2 ** bits * 20) for _ in range(2)])
            text = e.decimal_text((low, high), bits, places)
            self.check(text, Fraction(low, 2 ** bits), Fraction(high, 2 ** bits), places)

    def check(self, text, low, high, places):
        first, second = text.split("..")
        for word in (first, second):
            digits = word.removeprefix("-")
            whole, point, rest = digits.partition(".")
            self.assertEqual(len(rest), places)
            self.assertEqual(point, "." if places else "")
            self.assertTrue(whole == "0" or not whole.startswith("0"))
            self.assertTrue(whole.isdigit())
            if word.startswith("-"):
                self.assertNotEqual(digits.strip("0."), "")
        unit = Fraction(1, 10 ** places)
        self.assertTrue(Fraction(first) <= low < Fraction(first) + unit)
        self.assertTrue(Fraction(second) - unit < high <= Fraction(second))

    def test_great_numbers(self):
        great = 10 ** 9000 + 10 ** 70 + 5
        digits = "1" + "0" * 8929 + "1" + "0" * 69 + "5"
        self.assertEqual(e.decimal_text((-great, great), 0, 0), f"-{digits}..{digits}")
        text = e.decimal_text((10 ** 5000 << 8, 10 ** 5000 << 8), 8, 60)
        self.assertEqual(text.split("..")[0], "1" + "0" * 5000 + "." + "0" * 60)
