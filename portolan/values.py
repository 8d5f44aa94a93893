"""The values of formulas: enclosures, signs, and the greatest whole numbers below them."""

from portolan.enclosures import rescaled
from portolan.reckoning import decided
from portolan.reckoning import narrow_steps

# Most signs and whole numbers are decided with so many bits.
FEW_BITS = 64


def enclose(formula, bits):
    """Return an enclosure of the value of a formula with a width of at most 4."""
    work, enclosures = narrow_steps(formula, bits)
    return rescaled(enclosures[-1], work, bits)


def sign_of(formula):
    """Return the sign of the value of a formula: -1, 0 or 1."""
    return decided(formula, FEW_BITS, certain_sign)


def floor_of(formula):
    """Return the greatest integer that is at most the value of a formula."""
    return decided(formula, FEW_BITS, certain_floor)


def certain_sign(exact, enclosures, bits):
    """Return the sign of the last value, or None if it is not certain."""
    low, high = enclosures[-1]
    if low > 0:
        return 1
    if high < 0:
        return -1
    if exact is None:
        # Only a value that is known exactly is told to be 0.
        return None
    return exact_sign(exact[0])


def exact_sign(n):
    """Return the sign of an integer."""
    if n == 0:
        return 0
    return 1 if n > 0 else -1


def certain_floor(exact, enclosures, bits):
    """Return the greatest integer that is at most the last value, or None if it is not certain."""
    if exact is not None:
        return exact[0] // exact[1]
    low, high = rescaled_down(enclosures[-1], bits)
    return low if low == high else None


def rescaled_down(a, bits):
    """Return the greatest integers that are at most the ends of an enclosure."""
    return a[0] >> bits, a[1] >> bits
