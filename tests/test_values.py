"""portolan.values: points 3.4 and 3.5."""

import random
import time
import unittest
from fractions import Fraction

from portolan import formulas as f
from portolan.errors import Undecided
from portolan.errors import Undefined
from portolan.values import enclose
from portolan.values import floor_of
from portolan.values import sign_of

from tests import decimals
from tests.samples import random_formula

BITS = [8, 9, 53, 128, 160]
PI = f.pi_formula()
TWO_ROOT = f.applied("root", f.number(2, 1))
ZERO = f.number(0, 1)
# A difference of two equal values that are not known exactly.
NOTHING = f.minus(TWO_ROOT, TWO_ROOT)
# It has certainly no value.
BAD = f.applied("log", f.number(-1, 1))


def n(p, q=1):
    return f.number(p, q)


class Enclose(unittest.TestCase):
    """Point 3.4."""

    def check(self, formula, value, bits):
        found = enclose(formula, bits)
        self.assertIsInstance(found, tuple)
        low, high = found
        with self.subTest(formula=formula, bits=bits, found=found):
            self.assertLessEqual(low, decimals.floor_units(value, bits))
            self.assertGreaterEqual(high, decimals.ceiling_units(value, bits))
            self.assertLessEqual(high - low, 4)

    def test_each_word(self):
        for bits in BITS:
            for word in ("sine", "cosine", "exp", "arctan"):
                for p, q in ((0, 1), (1, 3), (-7, 5), (63, 1), (-64, 1), (64, 1)):
                    self.check(f.applied(word, n(p, q)), decimals.FUNCTIONS[word](decimals.exactly(p, q)), bits)
            for word in ("arcsine", "arccosine"):
                for p, q in ((0, 1), (1, 3), (-7, 9), (1, 1), (-1, 1), (10 ** 40 - 1, 10 ** 40)):
                    self.check(f.applied(word, n(p, q)), decimals.FUNCTIONS[word](decimals.exactly(p, q)), bits)
            for word in ("root", "log"):
                for p, q in ((1, 1), (2, 3), (10 ** 40, 1), (1, 10 ** 40)):
                    self.check(f.applied(word, n(p, q)), decimals.FUNCTIONS[word](decimals.exactly(p, q)), bits)
            self.check(PI, decimals.pi(), bits)
            for p, q in ((0, 1), (5, 1), (-22, 7), (10 ** 99, 3), (1, 10 ** 99)):
                self.check(n(p, q), Fraction(p, q), bits)

    def test_formulas_by_chance(self):
        chance = random.Random(1)
        for _ in range(150):
            formula = random_formula(chance, chance.randint(1, 25))
            value = decimals.value_of(formula)
            for bits in BITS:
                self.check(formula, value, bits)

    def test_tidied_has_the_same_value(self):
        chance = random.Random(2)
        for _ in range(30):
            formula = random_formula(chance, 20)
            self.check(f.tidied(formula), decimals.value_of(formula), 100)

    def test_exact_steps(self):
        third = f.over(n(1), n(3))
        for bits in BITS:
            self.check(third, Fraction(1, 3), bits)
            self.check(f.minus(third, third), Fraction(0), bits)
            self.assertLessEqual(enclose(f.times(third, n(3)), bits)[0], 1 << bits)
            self.check(f.plus(third, n(-5, 7)), Fraction(1, 3) - Fraction(5, 7), bits)
            self.check(f.over(n(3, 4), n(-5, 7)), Fraction(-21, 20), bits)

    def test_roots_of_exact_zeros(self):
        for zero in (ZERO, f.minus(n(1, 3), n(2, 6)), f.times(n(0), n(7)), f.over(n(0), n(-7)),
                     f.minus(f.over(n(1), n(3)), f.times(n(1, 9), n(3)))):
            for bits in BITS:
                self.check(f.applied("root", zero), Fraction(0), bits)

    def test_arcsine_of_a_sine(self):
        half = f.over(PI, n(2))
        for bits in BITS:
            self.check(f.applied("arcsine", f.applied("sine", half)), decimals.pi() / 2, bits)
            self.check(f.applied("arccosine", f.applied("cosine", PI)), decimals.pi(), bits)
            self.check(f.applied("arccosine", f.applied("sine", half)), Fraction(0), bits)
            self.check(f.applied("arcsine", f.applied("cosine", n(0))), decimals.pi() / 2, bits)
            self.check(f.applied("root", f.minus(n(1), f.applied("sine", half))), Fraction(0), bits)

    def test_great_and_small_numbers(self):
        great = f.applied("exp", n(60))
        small = f.applied("exp", n(-60))
        for _ in range(3):
            great = f.times(great, great)
            small = f.times(small, small)
        for bits in (8, 160):
            self.check(f.times(great, small), Fraction(1), bits)
            self.check(f.over(f.times(PI, small), small), decimals.pi(), bits)
            self.check(f.over(f.times(PI, great), great), decimals.pi(), bits)
            self.check(f.over(n(1), great), decimals.value_of(small), bits)
            self.check(great, decimals.value_of(great), bits)
            self.check(f.times(n(10 ** 300), n(1, 10 ** 300)), Fraction(1), bits)
            self.check(f.applied("arctan", great), decimals.pi() / 2, bits)
            self.check(f.times(TWO_ROOT, n(10 ** 100)), 10 ** 100 * decimals.root(decimals.Decimal(2)), bits)
            self.check(f.over(f.times(PI, n(10 ** 3000)), n(10 ** 3000)), decimals.pi(), bits)
            self.check(f.over(f.times(PI, n(3 ** 9000)), n(3 ** 9000)), decimals.pi(), bits)

    def test_a_hundred_steps(self):
        start = time.monotonic()
        for word in ("sine", "cosine", "arctan", "root"):
            formula = n(3, 2)
            for _ in range(99):
                formula = f.applied(word, formula)
            self.check(formula, decimals.value_of(formula), 160)
        formula = n(3, 2)
        for _ in range(49):
            formula = f.applied("log", f.applied("exp", formula))
        self.check(formula, Fraction(3, 2), 160)
        # Each sum repeats all steps before; they are reckoned once.
        formula = TWO_ROOT
        for _ in range(14):
            formula = f.over(f.plus(formula, formula), n(2))
        self.check(formula, decimals.root(decimals.Decimal(2)), 160)
        self.assertLess(time.monotonic() - start, 30)

    def test_undefined(self):
        tiny = n(1, 10 ** 40)
        beyond = f.plus(n(64), tiny)
        for bad in (
            f.over(n(1), ZERO), f.over(ZERO, ZERO), f.over(PI, f.minus(n(1, 3), n(2, 6))),
            f.applied("root", n(-1)), f.applied("root", f.minus(ZERO, tiny)), f.applied("root", f.minus(n(3), PI)),
            f.applied("log", n(0)), f.applied("log", n(-5)), f.applied("log", f.minus(n(3), PI)),
            f.applied("arcsine", n(2)), f.applied("arcsine", f.plus(n(1), tiny)), f.applied("arcsine", n(-3, 2)),
            f.applied("arcsine", PI), f.applied("arccosine", f.minus(n(-1), tiny)), f.applied("arccosine", PI),
            f.applied("exp", n(65)), f.applied("exp", beyond), f.applied("exp", n(-65)),
            f.applied("sine", beyond), f.applied("sine", n(-10 ** 90)), f.applied("cosine", beyond),
            f.applied("cosine", n(-65)), f.applied("sine", f.times(PI, n(21))),
            f.applied("cosine", f.times(PI, n(-21))), f.applied("exp", f.times(PI, n(21))),
            f.applied("arcsine", f.plus(f.applied("sine", n(1)), n(2))),
        ):
            self.refused(bad)

    def refused(self, bad):
        with self.subTest(bad):
            for formula in (bad, bad + (("number", 1, 1),), f.plus(PI, f.times(n(0), bad)), bad + f.applied("sine", ZERO)[:1]):
                for bits in (8, 160):
                    with self.assertRaises(Undefined):
                        enclose(formula, bits)
                with self.assertRaises(Undefined):
                    sign_of(formula)
                with self.assertRaises(Undefined):
                    floor_of(formula)

    def test_undecided(self):
        for open_one in (
            f.applied("root", NOTHING), f.applied("root", f.minus(PI, PI)), f.applied("log", NOTHING),
            f.over(n(1), NOTHING), f.applied("arcsine", f.plus(n(1), NOTHING)),
            f.applied("arccosine", f.minus(n(-1), NOTHING)), f.applied("exp", f.plus(n(64), NOTHING)),
            f.applied("sine", f.plus(n(64), NOTHING)), f.applied("cosine", f.minus(NOTHING, n(64))),
        ):
            for formula in (open_one, open_one + (("number", 1, 1),)):
                with self.subTest(formula):
                    for bits in (8, 160):
                        with self.assertRaises(Undecided):
                            enclose(formula, bits)
                    with self.assertRaises(Undecided):
                        sign_of(formula)
                    with self.assertRaises(Undecided):
                        floor_of(formula)

    def test_undefined_goes_before_undecided(self):
        for formula in (f.plus(f.applied("root", NOTHING), BAD), f.plus(BAD, f.applied("root", NOTHING)),
                        f.over(f.applied("root", NOTHING), ZERO)):
            with self.assertRaises(Undefined):
                enclose(formula, 160)
            with self.assertRaises(Undefined):
                sign_of(formula)
            with self.assertRaises(Undefined):
                floor_of(formula)

    def test_width_that_cannot_be_reached(self):
        great = f.applied("exp", n(60))
        for _ in range(5):
            great = f.times(great, great)
        with self.assertRaises(Undecided):
            enclose(great, 8)

    def test_numbers_that_cannot_be_kept(self):
        formula = PI
        for _ in range(99):
            formula = formula + (("times", len(formula) - 1, len(formula) - 1),)
        with self.assertRaises(Undecided):
            enclose(formula, 8)

    def test_decided_late(self):
        # sqrt(2) is more than this fraction, by about 10 ** -500.
        near = decimals_root(2, 500)
        gap = f.minus(TWO_ROOT, n(near, 10 ** 500))
        low, high = enclose(f.applied("log", gap), 160)
        self.assertTrue(-1160 < low >> 160 <= high >> 160 < -1150)
        with self.assertRaises(Undefined):
            enclose(f.applied("root", f.minus(n(near, 10 ** 500), TWO_ROOT)), 160)


def decimals_root(k, places):
    """The root of k, times 10 ** places, rounded down."""
    low, high = 0, k * 10 ** places
    while low < high:
        middle = (low + high + 1) // 2
        if middle * middle <= k * 100 ** places:
            low = middle
        else:
            high = middle - 1
    return low


class SignOf(unittest.TestCase):
    """Point 3.5."""

    def test_exact_values(self):
        self.assertEqual(sign_of(n(0)), 0)
        self.assertEqual(sign_of(n(0, 5)), 0)
        self.assertEqual(sign_of(n(3, 5)), 1)
        self.assertEqual(sign_of(n(-3, 5)), -1)
        self.assertEqual(sign_of(n(1, 10 ** 5000)), 1)
        self.assertEqual(sign_of(n(-1, 10 ** 5000)), -1)
        self.assertEqual(sign_of(f.minus(n(1, 3), n(2, 6))), 0)
        self.assertEqual(sign_of(f.minus(f.over(n(1), n(3)), n(1, 3))), 0)
        self.assertEqual(sign_of(f.minus(n(1, 3), n(10 ** 900 + 1, 3 * 10 ** 900))), -1)
        self.assertEqual(sign_of(f.over(n(-3), n(-7))), 1)
        self.assertEqual(sign_of(f.over(n(3), n(-7))), -1)

    def test_other_values(self):
        self.assertEqual(sign_of(PI), 1)
        self.assertEqual(sign_of(f.minus(n(3), PI)), -1)
        self.assertEqual(sign_of(f.minus(n(22, 7), PI)), 1)
        self.assertEqual(sign_of(f.minus(n(355, 113), PI)), 1)
        self.assertEqual(sign_of(f.applied("cosine", n(2))), -1)
        self.assertEqual(sign_of(f.applied("exp", n(-64))), 1)

    def test_near_zero(self):
        near = decimals_root(2, 600)
        self.assertEqual(sign_of(f.minus(TWO_ROOT, n(near, 10 ** 600))), 1)
        self.assertEqual(sign_of(f.minus(TWO_ROOT, n(near + 1, 10 ** 600))), -1)

    def test_undecided(self):
        for formula in (NOTHING, f.minus(PI, PI), f.applied("sine", PI), f.minus(f.times(TWO_ROOT, TWO_ROOT), n(2)),
                        f.minus(TWO_ROOT, n(decimals_root(2, 700), 10 ** 700))):
            with self.assertRaises(Undecided):
                sign_of(formula)

    def test_zero_only_if_known_exactly(self):
        for formula in (f.applied("root", ZERO), f.applied("sine", ZERO), f.applied("log", n(1))):
            with self.assertRaises(Undecided):
                sign_of(formula)

    def test_like_enclose(self):
        chance = random.Random(3)
        for _ in range(60):
            formula = random_formula(chance, 12)
            value = decimals.value_of(formula)
            if abs(value) > decimals.Decimal(10) ** -200:
                self.assertEqual(sign_of(formula), 1 if value > 0 else -1)


class FloorOf(unittest.TestCase):
    """Point 3.5."""

    def test_exact_values(self):
        for p, q, wanted in ((0, 1, 0), (7, 2, 3), (-7, 2, -4), (8, 2, 4), (-8, 2, -4), (1, 10 ** 5000, 0),
                             (-1, 10 ** 5000, -1), (10 ** 5000, 1, 10 ** 5000), (10 ** 900 - 1, 10 ** 900, 0)):
            self.assertEqual(floor_of(n(p, q)), wanted)
        self.assertEqual(floor_of(f.times(n(1, 3), n(3))), 1)
        self.assertEqual(floor_of(f.plus(f.over(n(2), n(3)), n(-5, 3))), -1)
        self.assertEqual(floor_of(f.over(n(7), n(-2))), -4)

    def test_other_values(self):
        self.assertEqual(floor_of(PI), 3)
        self.assertEqual(floor_of(f.minus(ZERO, PI)), -4)
        self.assertEqual(floor_of(f.times(PI, n(10 ** 40))), 31415926535897932384626433832795028841971)
        self.assertEqual(floor_of(f.applied("exp", n(64))), 6235149080811616882909238708)
        self.assertEqual(floor_of(f.applied("sine", n(-1, 10 ** 30))), -1)

    def test_near_whole_numbers(self):
        near = decimals_root(2, 600)
        above = f.plus(f.minus(TWO_ROOT, n(near, 10 ** 600)), n(5))
        below = f.plus(f.minus(TWO_ROOT, n(near + 1, 10 ** 600)), n(5))
        self.assertEqual(floor_of(above), 5)
        self.assertEqual(floor_of(below), 4)
        self.assertEqual(floor_of(f.minus(ZERO, above)), -6)
        self.assertEqual(floor_of(f.minus(ZERO, below)), -5)

    def test_undecided(self):
        for formula in (NOTHING, f.times(TWO_ROOT, TWO_ROOT), f.applied("log", f.applied("exp", n(5))),
                        f.over(PI, PI), f.plus(n(7), f.applied("sine", PI))):
            with self.assertRaises(Undecided):
                floor_of(formula)

    def test_like_enclose(self):
        chance = random.Random(4)
        for _ in range(60):
            formula = random_formula(chance, 12)
            if any(step[0] not in ("number", "add", "subtract", "times", "divide") for step in formula):
                try:
                    found = floor_of(formula)
                except Undecided:
                    low, high = enclose(formula, 160)
                    self.assertNotEqual(low >> 160, high >> 160)
                else:
                    self.assertEqual(found, decimals.floor_units(decimals.value_of(formula), 0))
