"""portolan.formulas: points 3.1 to 3.3."""

import random
import unittest

from portolan import formulas as f

from tests.samples import random_formula

PAIRS = {"plus": "add", "minus": "subtract", "times": "times", "over": "divide"}
ONE_INDEX = ["root", "sine", "cosine", "exp", "log", "arctan", "arcsine", "arccosine"]
TWO_INDEXES = ["add", "subtract", "times", "divide"]
START = (("number", 1, 2), ("pi",))


class IsFormula(unittest.TestCase):
    """Point 3.1."""

    def right(self, value):
        self.assertIs(f.is_formula(value), True, value)

    def wrong(self, value):
        self.assertIs(f.is_formula(value), False, value)

    def test_each_word(self):
        self.right((("number", 0, 1),))
        self.right((("number", -10 ** 5000, 10 ** 5000),))
        self.right((("pi",),))
        for word in TWO_INDEXES:
            for i in (0, 1):
                for j in (0, 1):
                    self.right(START + ((word, i, j),))
        for word in ONE_INDEX:
            for i in (0, 1):
                self.right(START + ((word, i),))

    def test_unsound_formulas_are_formulas(self):
        self.right((("number", -1, 1), ("log", 0)))
        self.right((("number", 0, 1), ("divide", 0, 0)))
        self.right((("number", 65, 1), ("exp", 0), ("root", 1), ("arcsine", 2)))

    def test_other_words(self):
        for word in ("", "Add", "sin", "tan", "plus", "arctangent", "number ", "PI", "sqrt", "\u03c0"):
            self.wrong(START + ((word,),))
            self.wrong(START + ((word, 0),))
            self.wrong(START + ((word, 0, 1),))

    def test_words_of_other_kinds(self):
        for word in (None, 1, True, b"pi", ("pi",), ["pi"], {"pi": 1}, 0.5, {1}):
            self.wrong(((word,),))
            self.wrong(START + ((word, 0),))
            self.wrong(START + ((word, 0, 1),))

    def test_counts(self):
        for step in (("number",), ("number", 1), ("number", 1, 2, 3), ("pi", 0), ("pi", 1, 1)):
            self.wrong((step,))
            self.wrong(START + (step,))
        for word in TWO_INDEXES:
            for step in ((word,), (word, 0), (word, 0, 1, 0)):
                self.wrong(START + (step,))
        for word in ONE_INDEX:
            for step in ((word,), (word, 0, 1)):
                self.wrong(START + (step,))

    def test_indexes(self):
        for bad in (2, 3, 10 ** 30, -1, -2, None, "0", 0.0, 1.0, True, False, (0,), [0], b"0"):
            for word in TWO_INDEXES:
                self.wrong(START + ((word, bad, 0),))
                self.wrong(START + ((word, 0, bad),))
            for word in ONE_INDEX:
                self.wrong(START + ((word, bad),))
        self.wrong((("root", 0),))
        self.wrong((("root", 1), ("number", 1, 1)))

    def test_fractions(self):
        for p in (None, "1", 1.0, True, False, (1,), b"1"):
            self.wrong((("number", p, 1),))
        for q in (0, -1, -7, None, "1", 1.0, True, False, (1,)):
            self.wrong((("number", 1, q),))

    def test_lists(self):
        self.wrong([("pi",)])
        self.wrong((["pi"],))
        self.wrong((["number", 1, 2],))
        self.wrong([["pi"]])
        self.wrong(START + (["root", 0],))

    def test_other_values(self):
        nested = ()
        for _ in range(9):
            nested = (nested,)
        for value in ((), ((),), (("pi",), ()), None, 0, 1, True, False, "pi", "number", b"pi", [], {}, {"pi": ()},
                      ("pi",), ("number", 1, 2), (None,), (1, 2), nested, 0.5, set(), ((("pi",),),), object(),
                      (("pi",), None), (("pi",), "pi"), {0: ("pi",)}, (("pi",), ["root", 0]), range(3), (range(3),)):
            self.wrong(value)


class Making(unittest.TestCase):
    """Point 3.2."""

    def test_number_and_pi(self):
        self.assertEqual(f.number(3, 7), (("number", 3, 7),))
        self.assertEqual(f.number(-6, 4), (("number", -6, 4),))
        self.assertEqual(f.pi_formula(), (("pi",),))

    def test_pairs_of_single_steps(self):
        for name, word in PAIRS.items():
            found = getattr(f, name)(f.number(1, 2), f.pi_formula())
            self.assertEqual(found, (("number", 1, 2), ("pi",), (word, 0, 1)))
            self.assertIsInstance(found, tuple)

    def test_pairs_of_formulas(self):
        first = (("pi",), ("number", 5, 6), ("divide", 1, 0))
        second = (("number", 2, 3), ("root", 0), ("subtract", 1, 0), ("pi",), ("times", 3, 2))
        for name, word in PAIRS.items():
            self.assertEqual(getattr(f, name)(first, second), (
                ("pi",), ("number", 5, 6), ("divide", 1, 0),
                ("number", 2, 3), ("root", 3), ("subtract", 4, 3), ("pi",), ("times", 6, 5),
                (word, 2, 7)))
            self.assertEqual(getattr(f, name)(second, first), (
                ("number", 2, 3), ("root", 0), ("subtract", 1, 0), ("pi",), ("times", 3, 2),
                ("pi",), ("number", 5, 6), ("divide", 6, 5),
                (word, 4, 7)))

    def test_applied(self):
        formula = (("pi",), ("number", 5, 6), ("divide", 1, 0))
        for word in ONE_INDEX:
            self.assertEqual(f.applied(word, formula), formula + ((word, 2),))
            self.assertEqual(f.applied(word, f.pi_formula()), (("pi",), (word, 0)))

    def test_all_are_formulas(self):
        chance = random.Random(1)
        for _ in range(50):
            g = random_formula(chance, chance.randint(1, 9))
            h = random_formula(chance, chance.randint(1, 9))
            for name in PAIRS:
                self.assertTrue(f.is_formula(getattr(f, name)(g, h)))
            self.assertTrue(f.is_formula(f.applied("exp", g)))


class Tidied(unittest.TestCase):
    """Point 3.3."""

    def test_equal_steps(self):
        self.assertEqual(f.tidied((("pi",), ("pi",), ("add", 0, 1))), (("pi",), ("add", 0, 0)))
        self.assertEqual(f.tidied((("number", 1, 2), ("number", 2, 4), ("add", 0, 1))),
                         (("number", 1, 2), ("number", 2, 4), ("add", 0, 1)))

    def test_steps_that_become_equal(self):
        twice = f.times(f.applied("sine", f.pi_formula()), f.applied("sine", f.pi_formula()))
        self.assertEqual(f.tidied(twice), (("pi",), ("sine", 0), ("times", 1, 1)))
        deep = f.plus(twice, twice)
        self.assertEqual(f.tidied(deep), (("pi",), ("sine", 0), ("times", 1, 1), ("add", 2, 2)))

    def test_order_of_arguments_counts(self):
        formula = (("pi",), ("number", 1, 1), ("add", 0, 1), ("add", 1, 0), ("times", 2, 3))
        self.assertEqual(f.tidied(formula), formula)

    def test_steps_that_are_not_used(self):
        formula = (("number", 7, 1), ("pi",), ("root", 0), ("sine", 1), ("number", 3, 1), ("exp", 3))
        self.assertEqual(f.tidied(formula), (("pi",), ("sine", 0), ("exp", 1)))
        self.assertEqual(f.tidied((("pi",), ("number", 1, 1))), (("number", 1, 1),))

    def test_last_step_equal_to_an_earlier_one(self):
        self.assertEqual(f.tidied((("pi",), ("number", 1, 1), ("pi",))), (("pi",),))
        formula = (("pi",), ("root", 0), ("exp", 1), ("pi",), ("root", 3))
        self.assertEqual(f.tidied(formula), (("pi",), ("root", 0)))

    def test_unused_steps_stand_for_later_ones(self):
        # The first of two equal steps is kept, also where it was not used itself.
        formula = (("number", 5, 1), ("pi",), ("number", 5, 1), ("add", 1, 2))
        self.assertEqual(f.tidied(formula), (("number", 5, 1), ("pi",), ("add", 1, 0)))

    def test_twice(self):
        chance = random.Random(2)
        for _ in range(200):
            formula = random_formula(chance, chance.randint(1, 30))
            first = f.tidied(formula)
            self.assertTrue(f.is_formula(first))
            self.assertEqual(f.tidied(first), first)
            self.assertEqual(len(set(first)), len(first))
            self.assertEqual(self.unfolded(first, len(first) - 1), self.unfolded(formula, len(formula) - 1))
            used = {index for step in first if step[0] != "number" for index in step[1:]}
            self.assertEqual(used | {len(first) - 1}, set(range(len(first))))

    def unfolded(self, formula, place):
        """The whole tree of a step, with numbers instead of trees that have been seen."""
        trees = {}
        names = []
        for step in formula:
            tree = step if step[0] in ("number", "pi") else (step[0],) + tuple(names[i] for i in step[1:])
            names.append(trees.setdefault(repr(tree), repr(hash(repr(tree)))))
        return names[place]

    def test_the_argument_is_kept(self):
        formula = f.plus(f.pi_formula(), f.pi_formula())
        f.tidied(formula)
        self.assertEqual(formula, (("pi",), ("pi",), ("add", 0, 1)))


class StepsOf(unittest.TestCase):
    """Point 3.3."""

    def test_count(self):
        formula = f.plus(f.times(f.pi_formula(), f.pi_formula()), f.number(1, 2))
        self.assertEqual(f.steps_of(formula, "pi"), 2)
        self.assertEqual(f.steps_of(formula, "times"), 1)
        self.assertEqual(f.steps_of(formula, "add"), 1)
        self.assertEqual(f.steps_of(formula, "number"), 1)
        self.assertEqual(f.steps_of(formula, "root"), 0)
        self.assertEqual(f.steps_of(formula, "other"), 0)
        self.assertEqual(f.steps_of(f.tidied(formula), "pi"), 1)
