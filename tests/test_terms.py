"""portolan.terms and portolan.trigonometry: short formulas, in which 0 and 1 are seen."""

import random
import unittest
from fractions import Fraction

from portolan import formulas as f
from portolan import terms
from portolan.points import radians
from portolan.trigonometry import cosine_of
from portolan.trigonometry import sine_of
from portolan.trigonometry import unstretched

from tests import decimals
from tests import globe
from tests.checks import check_value
from tests.samples import random_formula

ZERO = f.number(0, 1)
ONE = f.number(1, 1)
ROOT = (("number", 2, 1), ("root", 0))
PI = (("pi",),)
RIGHT = 900000000


def n(p, q=1):
    return f.number(p, q)


class Terms(unittest.TestCase):
    def test_fractions_stay_fractions(self):
        for p, q in ((0, 1), (1, 1), (-2, 3), (5, 4)):
            for r, s in ((1, 1), (-1, 1), (4, 6), (7, 2)):
                a, b = Fraction(p, q), Fraction(r, s)
                for made, value in ((terms.total, a + b), (terms.difference, a - b), (terms.product, a * b),
                                    (terms.quotient, a / b)):
                    found = made(n(p, q), terms.fraction(r, s))
                    self.assertEqual(found, n(value.numerator, value.denominator))
            half, twice = Fraction(p, q) / 2, Fraction(p, q) * 2
            self.assertEqual(terms.half(n(p, q)), n(half.numerator, half.denominator))
            self.assertEqual(terms.double(n(p, q)), n(twice.numerator, twice.denominator))
            self.assertEqual(terms.square(n(p, q)), n(p * p, q * q))
            self.assertEqual(terms.opposite(n(p, q)), n(-p, q))
        self.assertEqual(terms.fraction(6, -4), n(-3, 2))

    def test_needless_operations(self):
        for made in (terms.total(ROOT, ZERO), terms.total(ZERO, ROOT), terms.difference(ROOT, ZERO),
                     terms.product(ROOT, ONE), terms.product(ONE, ROOT), terms.quotient(ROOT, ONE)):
            self.assertEqual(made, ROOT)
        for made in (terms.difference(ROOT, ROOT), terms.product(ROOT, ZERO), terms.product(ZERO, ROOT),
                     terms.quotient(ZERO, ROOT)):
            self.assertEqual(made, ZERO)

    def test_others_are_tidied(self):
        self.assertEqual(terms.total(ROOT, PI), (*ROOT, ("pi",), ("add", 1, 2)))
        self.assertEqual(terms.product(ROOT, ROOT), (*ROOT, ("times", 1, 1)))
        self.assertEqual(terms.quotient(n(2), ROOT), (*ROOT, ("divide", 0, 1)))
        self.assertEqual(terms.quotient(ROOT, n(2)), (*ROOT, ("divide", 1, 0)))
        self.assertEqual(terms.difference(n(2), ROOT), (*ROOT, ("subtract", 0, 1)))
        chance = random.Random(1)
        for _ in range(50):
            g, h = [f.tidied(random_formula(chance, 12)) for _ in range(2)]
            for made, plain in ((terms.total, f.plus), (terms.product, f.times), (terms.difference, f.minus)):
                found = made(g, h)
                self.assertEqual(found, f.tidied(found))
                self.assertLessEqual(len(found), len(f.tidied(plain(g, h))))
                value = decimals.value_of(plain(g, h))
                if abs(value) < 10 ** 6:
                    check_value(self, found, value, (8, 60))

    def test_functions_of_known_numbers(self):
        for function, p, value in ((terms.sine_term, 0, 0), (terms.cosine_term, 0, 1), (terms.exponential_term, 0, 1),
                                   (terms.logarithm_term, 1, 0), (terms.arctangent_term, 0, 0), (terms.arcsine_term, 0, 0),
                                   (terms.arccosine_term, 1, 0), (terms.artanh, 0, 0)):
            self.assertEqual(function(n(p)), n(value))
            self.assertEqual(function(n(3 * p, 3)), n(value))
        for function, word in ((terms.sine_term, "sine"), (terms.cosine_term, "cosine"), (terms.exponential_term, "exp"),
                               (terms.logarithm_term, "log"), (terms.arctangent_term, "arctan"),
                               (terms.arcsine_term, "arcsine"), (terms.arccosine_term, "arccosine")):
            for p, q in ((1, 2), (2, 3)):
                self.assertEqual(function(n(p, q)), (("number", p, q), (word, 0)))

    def test_roots(self):
        for p, q in ((0, 1), (1, 1), (4, 9), (25, 1), (1, 49)):
            found = terms.root(n(p, q))
            self.assertEqual(len(found), 1)
            self.assertEqual(Fraction(*found[0][1:]) ** 2, Fraction(p, q))
        for p, q in ((2, 1), (4, 3), (3, 4), (8, 9), (9, 8), (1, 2), (10 ** 40 + 1, 1), (1, 10 ** 40 - 1)):
            self.assertEqual(terms.root(n(p, q)), (("number", p, q), ("root", 0)))
        self.assertEqual(terms.root(PI), (("pi",), ("root", 0)))

    def test_short(self):
        self.assertEqual(terms.short(f.minus(n(1, 3), n(2, 6))), ZERO)
        self.assertEqual(terms.short(n(4, 6)), n(2, 3))
        self.assertEqual(terms.short(f.plus(ROOT, ROOT)), (*ROOT, ("add", 1, 1)))
        self.assertEqual(terms.short(ROOT), ROOT)

    def test_total_of(self):
        self.assertEqual(terms.total_of([]), ZERO)
        self.assertEqual(terms.total_of([n(1, 2), n(1, 3), n(1, 6)]), ONE)
        self.assertEqual(terms.total_of([ROOT]), ROOT)


class Trigonometry(unittest.TestCase):
    def test_whole_right_angles(self):
        for k in range(-9, 10):
            self.assertEqual(sine_of(k * RIGHT), n((0, 1, 0, -1)[k % 4]))
            self.assertEqual(cosine_of(k * RIGHT), n((1, 0, -1, 0)[k % 4]))

    def test_others(self):
        for angle in (1, -1, 450000000, -1234567890, RIGHT - 1, RIGHT + 1, 2 * RIGHT - 1, 10 ** 30 + 7):
            check_value(self, sine_of(angle), globe.sin(angle % globe.TURN))
            check_value(self, cosine_of(angle), globe.cos(angle % globe.TURN))
            self.assertEqual(cosine_of(angle), cosine_of(-angle))

    def test_radians_of_0(self):
        self.assertEqual(radians(0), ZERO)
        self.assertEqual(radians(2 * RIGHT), PI)

    def test_unstretched(self):
        for p, q in ((0, 1), (1, 3), (-7, 2), (60, 1), (-60, 1), (61, 1), (-61, 1), (121, 2), (64, 1), (-64, 1), (500, 1),
                     (-500, 1), (10 ** 5, 1), (-10 ** 5, 1)):
            w = decimals.exactly(p, q)
            if abs(w) < 1000:
                value = decimals.arctan((w.exp() - (-w).exp()) / 2)
            else:
                value = decimals.pi() / 2 if w > 0 else -decimals.pi() / 2
            with self.subTest(p=p, q=q):
                check_value(self, unstretched(n(p, q)), value, (8, 60, 160))
        self.assertEqual(unstretched(ZERO), ZERO)
