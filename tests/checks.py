"""What every formula of the package has to be: sound, narrow, and with the right value."""

from portolan.formulas import is_formula
from portolan.papers import paper_for
from portolan.papers import paper_holds
from portolan.papers import told_by
from portolan.values import enclose

from tests import decimals

BITS = (8, 23, 60, 160)


def check_value(test, formula, value, bits=BITS, with_paper=False):
    """The enclosures of a formula contain a value, and are at most 4 wide."""
    test.assertTrue(is_formula(formula), formula)
    for many in bits:
        check_enclosure(test, enclose(formula, many), value, many)
    if with_paper:
        paper = paper_for(formula, bits[0])
        test.assertTrue(paper_holds(formula, paper))
        check_enclosure(test, told_by(formula, paper, bits[0]), value, bits[0])


def check_enclosure(test, found, value, bits):
    test.assertIsInstance(found, tuple)
    low, high = found
    test.assertLessEqual(low, decimals.floor_units(value, bits))
    test.assertGreaterEqual(high, decimals.ceiling_units(value, bits))
    test.assertLessEqual(high - low, 4)


def check_values(test, formulas, values, bits=BITS, with_paper=False):
    """Like check_value, for a tuple of formulas."""
    test.assertIsInstance(formulas, tuple)
    test.assertEqual(len(formulas), len(values))
    for formula, value in zip(formulas, values):
        check_value(test, formula, value, bits, with_paper)
