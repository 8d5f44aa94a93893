"""What is asked of numbers: signs, as far as they can be decided."""

from portolan.errors import NoPlace
from portolan.errors import Undecided
from portolan.terms import difference
from portolan.values import sign_of


def sign_or_none(formula):
    """Return the sign of the value of a formula, or None if it cannot be decided."""
    try:
        return sign_of(formula)
    except Undecided:
        return None


def demand(formulas, least):
    """Raise NoPlace if some sign is certainly less than `least`, and Undecided if that is not certain."""
    if is_open(formulas, least):
        raise Undecided("it cannot be decided whether there is a place")


def is_open(formulas, least):
    """Return True if some sign cannot be decided; raise NoPlace if one is certainly less than `least`."""
    signs = [sign_or_none(formula) for formula in formulas]
    for sign in signs:
        if sign is not None and sign < least:
            raise NoPlace("no place is mapped there")
    return None in signs


def between(low, formula, high):
    """Return formulas that are not negative if a formula is from one to another."""
    return [difference(formula, low), difference(high, formula)]
