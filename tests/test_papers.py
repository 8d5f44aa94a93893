"""portolan.papers: points 4.1 to 4.4."""

import random
import time
import unittest

from portolan import formulas as f
from portolan.enclosures import rescaled
from portolan.errors import NoPaper
from portolan.errors import Undecided
from portolan.errors import Undefined
from portolan.papers import paper_for
from portolan.papers import paper_holds
from portolan.papers import told_by
from portolan.values import enclose

from tests import decimals
from tests.rightness import right
from tests.samples import random_formula

ROOT = (("number", 2, 1), ("root", 0))
FUNCTIONS = ["root", "sine", "cosine", "exp", "log", "arctan", "arcsine", "arccosine"]
NOTHING = f.minus(ROOT, ROOT)


def n(p, q=1):
    return f.number(p, q)


def with_enclosure(paper, place, enclosure):
    bits, enclosures = paper
    return (bits, enclosures[:place] + (enclosure,) + enclosures[place + 1:])


def each_word():
    """A small sound formula for each word, over steps that are not known exactly."""
    half = f.over(f.applied("root", n(2)), n(3))
    found = [f.applied(word, half) for word in FUNCTIONS]
    found += [f.plus(half, f.pi_formula()), f.minus(half, f.pi_formula()), f.times(half, f.minus(half, f.pi_formula())),
              f.over(f.minus(half, f.pi_formula()), half), n(1, 3), f.pi_formula(), f.plus(n(1, 3), n(1, 7))]
    return found


class Holds(unittest.TestCase):
    """Points 4.1 and 4.2."""

    def agree(self, formula, paper):
        """The checker takes only what is right, and all that is right with 2 units to spare."""
        found = paper_holds(formula, paper)
        self.assertIsInstance(found, bool)
        with self.subTest(formula=formula, paper=paper):
            if found:
                self.assertTrue(right(formula, paper))
            else:
                self.assertFalse(right(formula, paper, 2))

    def test_papers_made_here(self):
        for formula in each_word():
            for bits in (8, 53, 160):
                self.assertIs(paper_holds(formula, paper_for(formula, bits)), True)

    def test_changed_papers(self):
        for formula in each_word():
            paper = paper_for(formula, 8)
            for place in range(len(formula)):
                low, high = paper[1][place]
                unit = 1 << paper[0]
                for below in (-unit, -10 ** 6, -9, -3, -2, -1, 0, 1, 2, 3, 9, 10 ** 6, unit):
                    for above in (-unit, -10 ** 6, -9, -3, -2, -1, 0, 1, 2, 3, 9, 10 ** 6, unit):
                        if low + below <= high + above:
                            self.agree(formula, with_enclosure(paper, place, (low + below, high + above)))

    def test_wider_last_enclosures(self):
        for formula in each_word():
            paper = paper_for(formula, 100)
            last = len(formula) - 1
            low, high = paper[1][last]
            for more in (1, 2, 5, 10 ** 50):
                self.assertIs(paper_holds(formula, with_enclosure(paper, last, (low - more, high))), True)
                self.assertIs(paper_holds(formula, with_enclosure(paper, last, (low, high + more))), True)

    def test_narrowed_last_enclosures(self):
        for formula in each_word():
            paper = paper_for(formula, 100)
            last = len(formula) - 1
            low, high = paper[1][last]
            width = high - low + 1
            for wrong in ((low + width, high + width), (low - width, high - width), (high + 1, high + 99),
                          (low - 99, low - 1)):
                self.agree(formula, with_enclosure(paper, last, wrong))
                self.assertIs(paper_holds(formula, with_enclosure(paper, last, wrong)), False)

    def test_least_enclosures_of_operations(self):
        formula = ROOT + (("number", 3, 1), ("root", 2))
        base = ((512, 512), (362, 363), (768, 768), (443, 444))
        for word, least in (("add", (805, 807)), ("subtract", (-82, -80)), ("times", (626, 630)),
                            ("divide", (208, 210))):
            whole = formula + ((word, 1, 3),)
            self.assertTrue(paper_holds(whole, (8, base + (least,))), word)
            self.assertTrue(right(whole, (8, base + (least,))))
            self.assertFalse(paper_holds(whole, (8, base + ((least[0] + 1, least[1]),))), word)
            self.assertFalse(paper_holds(whole, (8, base + ((least[0], least[1] - 1),))), word)
        self.assertTrue(paper_holds(ROOT, (8, ((512, 512), (362, 363)))))
        self.assertFalse(paper_holds(ROOT, (8, ((512, 512), (363, 363)))))
        self.assertFalse(paper_holds(ROOT, (8, ((512, 512), (362, 362)))))
        # A step that is known exactly may have any enclosure of its value.
        self.assertTrue(paper_holds(ROOT, (8, ((0, 900), (0, 481)))))
        self.assertFalse(paper_holds(ROOT, (8, ((0, 900), (0, 479)))))
        self.assertFalse(paper_holds(ROOT, (8, ((-1, 900), (-1, 481)))))

    def test_products_of_a_step_with_itself(self):
        # One number is taken from each argument, so they may differ.
        formula = (("number", 0, 1), ("sine", 0), ("times", 1, 1))
        self.assertTrue(paper_holds(formula, (8, ((0, 0), (-16, 16), (-1, 1)))))
        self.assertFalse(paper_holds(formula, (8, ((0, 0), (-16, 16), (0, 1)))))

    def test_exact_steps_ask_for_nothing_else(self):
        formula = (("number", 1, 3), ("times", 0, 0))
        self.assertTrue(paper_holds(formula, (8, ((85, 86), (28, 29)))))
        self.assertTrue(paper_holds(formula, (8, ((0, 900), (28, 29)))))
        self.assertFalse(paper_holds(formula, (8, ((85, 86), (29, 30)))))
        self.assertFalse(paper_holds(formula, (8, ((85, 86), (27, 28)))))
        quotient = (("number", 1, 1), ("number", 1, 3), ("divide", 0, 1))
        self.assertTrue(paper_holds(quotient, (8, ((0, 300), (-5, 900), (768, 768)))))
        self.assertFalse(paper_holds(quotient, (8, ((0, 300), (-5, 900), (769, 770)))))

    def test_unsound_formulas_have_no_paper(self):
        wide = (-10 ** 9, 10 ** 9)
        for formula in (f.over(n(1), n(0)), f.over(f.pi_formula(), n(0)), f.applied("root", n(-1)),
                        f.applied("log", n(0)), f.applied("log", n(-1)), f.applied("arcsine", n(2)),
                        f.applied("arccosine", n(-2)), f.applied("exp", n(65)), f.applied("sine", n(65)),
                        f.applied("cosine", n(-65)), f.plus(f.over(n(0), n(0)), n(1))):
            for enclosure in (wide, (0, 0), (1, 1), (0, 10 ** 6), (1, 10 ** 6), (256, 256)):
                self.assertIs(paper_holds(formula, (8, (enclosure,) * len(formula))), False)
                whole = []
                for step in formula:
                    if step[0] == "number":
                        whole.append((step[1] * 256, step[1] * 256))
                    else:
                        whole.append((804, 805) if step[0] == "pi" else enclosure)
                self.assertIs(paper_holds(formula, (8, tuple(whole))), False)

    def test_ranges_of_arguments(self):
        for word, inside, outside in (
            ("exp", (64 * 256, 64 * 256), (64 * 256, 64 * 256 + 1)),
            ("exp", (-64 * 256, 64 * 256), (-64 * 256 - 1, 64 * 256)),
            ("sine", (-64 * 256, 64 * 256), (-64 * 256 - 1, 64 * 256)),
            ("cosine", (0, 64 * 256), (0, 64 * 256 + 1)),
            ("log", (1, 999), (0, 999)),
            ("root", (0, 999), (-1, 999)),
            ("arcsine", (-256, 256), (-257, 256)),
            ("arccosine", (-256, 256), (-256, 257)),
        ):
            middle = (inside[0] + inside[1]) // 2
            formula = (("number", middle, 256), (word, 0))
            wide = (-10 ** 40, 10 ** 40)
            self.assertTrue(paper_holds(formula, (8, (inside, wide))), word)
            self.assertFalse(paper_holds(formula, (8, (outside, wide))), word)

    def test_waves_around_the_middle(self):
        # The middle is 1, half the width is 1 / 2; the sine of 1 is 0.84147.
        formula = (("number", 1, 1), ("sine", 0))
        self.assertTrue(paper_holds(formula, (8, ((128, 384), (87, 256)))))
        self.assertTrue(paper_holds(formula, (8, ((128, 384), (80, 300)))))
        self.assertFalse(paper_holds(formula, (8, ((128, 384), (88, 256)))))
        self.assertFalse(paper_holds(formula, (8, ((128, 384), (80, 255)))))
        # The middle is half a unit from a whole number of units.
        for n_low, n_high in ((256, 257), (250, 257), (-300, 301)):
            for word in ("sine", "cosine"):
                for low in range(-257, 258, 1):
                    paper = (8, ((n_low, n_high), (low, 256)))
                    self.agree((("number", 1, 1) if n_low > 0 else ("number", 0, 1), (word, 0)), paper)

    def test_wrong_forms(self):
        formula = ROOT
        good = (8, ((512, 512), (362, 363)))
        self.assertIs(paper_holds(formula, good), True)
        bad = [
            None, 0, 8, True, False, "", "paper", b"paper", (), [], {}, (8,), (8, ()), (8, ((512, 512),)),
            (8, ((512, 512), (362, 363), (362, 363))), (8, ((512, 512), (363, 362))), (8, ((513, 512), (362, 363))),
            [8, ((512, 512), (362, 363))], (8, [(512, 512), (362, 363)]), (8, ([512, 512], (362, 363))),
            (8, ((512, 512), [362, 363])), (8, ((512, 512), (362, 363)), 0), (((512, 512), (362, 363)), 8),
            (8.0, ((512, 512), (362, 363))), ("8", ((512, 512), (362, 363))), (None, ((512, 512), (362, 363))),
            (8, ((512.0, 512), (362, 363))), (8, ((512, 512), (362, "363"))), (8, ((512, 512), (362, None))),
            (8, ((512, 512), (362,))), (8, ((512, 512), (362, 363, 363))), (8, ((512, 512), ())),
            (8, ((512, 512), None)), (8, ((512, 512), 362)), (8, (512, 512, 362, 363)), (8, None), (8, "ab"),
            (8, {0: (512, 512), 1: (362, 363)}), ((8, ((512, 512), (362, 363))),), (good, good),
            (8, (((512, 512),), ((362, 363),))), (9, ((512, 512), (362, 363))), (True, ((512, 512), (362, 363))),
            ([8], ((512, 512), (362, 363))), {8: 1}, {8}, object(),
        ]
        for value in bad:
            with self.subTest(value):
                self.assertIs(paper_holds(formula, value), False)

    def test_booleans(self):
        formula = (("number", 1, 256), ("root", 0))
        self.assertIs(paper_holds(formula, (8, ((1, 1), (16, 16)))), True)
        self.assertIs(paper_holds(formula, (8, ((True, 1), (16, 16)))), False)
        self.assertIs(paper_holds(formula, (8, ((1, True), (16, 16)))), False)
        self.assertIs(paper_holds((("number", 0, 1),), (8, ((False, 0),))), False)
        self.assertIs(paper_holds((("number", 0, 1),), (8, ((0, False),))), False)
        self.assertIs(paper_holds((("number", 0, 1),), (8, ((0, 0),))), True)

    def test_bits(self):
        for bits in (8, 9, 4095, 4096):
            self.assertIs(paper_holds(n(1), (bits, ((1 << bits, 1 << bits),))), True)
        for bits in (7, 0, -8, 4097, 10000):
            one = 1 << max(bits, 0)
            self.assertIs(paper_holds(n(1), (bits, ((one, one),))), False)
            self.assertIs(paper_holds(n(1), (bits, ((0, 10 ** 5000),))), False)

    def test_other_bits(self):
        for formula in each_word():
            bits, enclosures = paper_for(formula, 60)
            self.assertIs(paper_holds(formula, (bits + 1, enclosures)), False)
            self.assertIs(paper_holds(formula, (bits - 1, enclosures)), False)
            twice = tuple((2 * low, 2 * high) for low, high in enclosures)
            self.agree(formula, (bits + 1, twice))

    def test_left_out_or_put_in(self):
        for formula in each_word():
            bits, enclosures = paper_for(formula, 60)
            for place in range(len(enclosures)):
                fewer = enclosures[:place] + enclosures[place + 1:]
                more = enclosures[:place] + (enclosures[place],) + enclosures[place:]
                self.assertIs(paper_holds(formula, (bits, fewer)), False)
                self.assertIs(paper_holds(formula, (bits, more)), False)

    def test_many_bits(self):
        # With 4096 bits, exact values of exp and the like, and a look at a root.
        one = 1 << 4096
        start = time.monotonic()
        for word, p, value in (("exp", 0, 1), ("log", 1, 0), ("sine", 0, 0), ("cosine", 0, 1), ("arctan", 0, 0),
                               ("arcsine", 0, 0), ("arccosine", 1, 0)):
            formula = (("number", p, 1), (word, 0))
            about = value * one
            self.assertTrue(paper_holds(formula, (4096, ((p * one, p * one), (about - 2, about + 2)))))
            self.assertFalse(paper_holds(formula, (4096, ((p * one, p * one), (about + 1, about + 2)))))
            self.assertFalse(paper_holds(formula, (4096, ((p * one, p * one), (about - 2, about - 1)))))
        low = paper_for(ROOT, 160)
        self.assertTrue(paper_holds(ROOT, low))
        self.assertLess(time.monotonic() - start, 20)


class Made(unittest.TestCase):
    """Points 4.3 and 4.4."""

    def check(self, formula, bits):
        paper = paper_for(formula, bits)
        self.assertIsInstance(paper, tuple)
        self.assertGreaterEqual(paper[0], bits)
        self.assertIs(paper_holds(formula, paper), True)
        low, high = rescaled(paper[1][-1], paper[0], bits)
        self.assertLessEqual(high - low, 4)
        self.assertEqual(told_by(formula, paper, bits), (low, high))
        self.assertEqual(told_by(formula, paper, paper[0]), paper[1][-1])
        self.assertEqual(told_by(formula, paper, 0), rescaled(paper[1][-1], paper[0], 0))
        return low, high

    def test_each_word(self):
        for formula in each_word():
            for bits in (8, 9, 64, 160):
                low, high = self.check(formula, bits)
                value = decimals.value_of(formula)
                self.assertLessEqual(low, decimals.floor_units(value, bits))
                self.assertGreaterEqual(high, decimals.ceiling_units(value, bits))

    def test_formulas_by_chance(self):
        chance = random.Random(1)
        for _ in range(120):
            formula = random_formula(chance, chance.randint(1, 25))
            low, high = self.check(formula, chance.choice([8, 30, 160]))
            self.assertLessEqual(low, high)

    def test_repeated_and_unused_steps(self):
        formula = f.plus(f.times(ROOT, ROOT), f.applied("sine", f.times(ROOT, ROOT)))
        self.check(formula, 100)
        self.check(formula + (("number", 1, 7),), 100)
        self.assertEqual(len(paper_for(formula, 100)[1]), len(formula))

    def test_papers_by_chance_are_right(self):
        chance = random.Random(2)
        for _ in range(40):
            formula = random_formula(chance, chance.randint(1, 12))
            paper = paper_for(formula, 40)
            self.assertTrue(right(formula, paper))

    def test_many_bits_are_needed(self):
        small = f.applied("exp", n(-60))
        for _ in range(4):
            small = f.times(small, small)
        self.check(f.over(f.times(f.pi_formula(), small), small), 160)

    def test_hundred_steps(self):
        start = time.monotonic()
        for word in FUNCTIONS[:3] + ["arctan"]:
            formula = n(3, 2)
            for _ in range(99):
                formula = f.applied(word, formula)
            self.check(formula, 160)
        self.assertLess(time.monotonic() - start, 30)

    def test_same_errors_as_enclose(self):
        for formula, error in (
            (f.over(n(1), n(0)), Undefined), (f.applied("root", n(-1)), Undefined),
            (f.applied("log", n(0)), Undefined), (f.applied("arcsine", n(2)), Undefined),
            (f.applied("exp", n(65)), Undefined), (f.applied("sine", n(65)), Undefined),
            (f.applied("log", n(-1)) + (("pi",),), Undefined),
            (f.applied("root", NOTHING), Undecided), (f.over(n(1), NOTHING), Undecided),
            (f.applied("root", NOTHING) + (("pi",),), Undecided),
            (f.plus(f.applied("root", NOTHING), f.applied("root", n(-1))), Undefined),
        ):
            for bits in (8, 160):
                with self.assertRaises(error):
                    enclose(formula, bits)
                with self.assertRaises(error):
                    paper_for(formula, bits)

    def test_no_paper(self):
        for value in (None, (), 0, (8, ()), (8, ((512, 512), (363, 363))), (7, ((256, 256), (181, 182))), "paper"):
            with self.assertRaises(NoPaper):
                told_by(ROOT, value, 8)
        self.assertEqual(told_by(ROOT, (8, ((512, 512), (362, 363))), 8), (362, 363))
        self.assertEqual(told_by(ROOT, (8, ((512, 512), (362, 363))), 9), (724, 726))
        self.assertEqual(told_by(ROOT, (8, ((512, 512), (362, 363))), 7), (181, 182))
