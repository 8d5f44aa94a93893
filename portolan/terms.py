"""Formulas made from formulas, kept short: each step stands once, and needless operations are left out.

What is a fraction stays a fraction, so that 0 and 1 are seen, and signs of
numbers that are exactly 0 can be told. All formulas that are passed are sound
and tidied (a formula from elsewhere is made so by `short`).
"""

from math import isqrt

from portolan.exact import exact_values
from portolan.exact import lowest_terms
from portolan.exact import operation
from portolan.formulas import applied
from portolan.formulas import merged_into
from portolan.formulas import number
from portolan.formulas import tidied

ZERO = (("number", 0, 1),)
ONE = (("number", 1, 1),)


def short(formula):
    """Return a formula with the same value: one number if it is known exactly, or else a tidied one."""
    exact = exact_values(formula)[-1]
    if exact is None:
        return tidied(formula)
    return fraction(exact[0], exact[1])


def fraction(p, q):
    """Return the formula of p / q in lowest terms, where q is not 0."""
    p, q = lowest_terms(p, q)
    return number(p, q)


def total(f, g):
    """Return a formula for the sum."""
    if is_number(f, 0):
        return g
    if is_number(g, 0):
        return f
    return joined("add", f, g)


def difference(f, g):
    """Return a formula for the difference."""
    if is_number(g, 0):
        return f
    if f == g:
        return ZERO
    return joined("subtract", f, g)


def product(f, g):
    """Return a formula for the product."""
    if is_number(f, 0) or is_number(g, 0):
        return ZERO
    if is_number(f, 1):
        return g
    if is_number(g, 1):
        return f
    return joined("times", f, g)


def quotient(f, g):
    """Return a formula for the quotient; the divisor is not 0."""
    if is_number(f, 0):
        return ZERO
    if is_number(g, 1):
        return f
    return joined("divide", f, g)


def opposite(f):
    """Return a formula for the number with the opposite sign."""
    return difference(ZERO, f)


def square(f):
    """Return a formula for the product of a number with itself."""
    return product(f, f)


def double(f):
    """Return a formula for twice a number."""
    return product(number(2, 1), f)


def half(f):
    """Return a formula for half of a number."""
    return product(number(1, 2), f)


def total_of(formulas):
    """Return a formula for the sum of a list of formulas."""
    if len(formulas) == 0:
        return ZERO
    if len(formulas) == 1:
        return formulas[0]
    # Each joining goes through all steps of both sides, so that halves are joined faster than one after the other.
    middle = len(formulas) // 2
    return total(total_of(formulas[:middle]), total_of(formulas[middle:]))


def root(f):
    """Return a formula for the square root, which is a number if the one of a fraction is a fraction."""
    if is_fraction(f):
        p = isqrt(f[0][1])
        q = isqrt(f[0][2])
        if p * p == f[0][1] and q * q == f[0][2]:
            return number(p, q)
    return applied("root", f)


def sine_term(f):
    """Return a formula for the sine of an angle in radians."""
    return unless_at("sine", f, 0, ZERO)


def cosine_term(f):
    """Return a formula for the cosine of an angle in radians."""
    return unless_at("cosine", f, 0, ONE)


def exponential_term(f):
    """Return a formula for e to the power of a number."""
    return unless_at("exp", f, 0, ONE)


def logarithm_term(f):
    """Return a formula for the natural logarithm."""
    return unless_at("log", f, 1, ZERO)


def arctangent_term(f):
    """Return a formula for the arctangent."""
    return unless_at("arctan", f, 0, ZERO)


def arcsine_term(f):
    """Return a formula for the arcsine."""
    return unless_at("arcsine", f, 0, ZERO)


def arccosine_term(f):
    """Return a formula for the arccosine."""
    return unless_at("arccosine", f, 1, ZERO)


def artanh(f):
    """Return a formula for artanh(f) = log((1 + f) / (1 - f)) / 2."""
    return half(logarithm_term(quotient(total(ONE, f), difference(ONE, f))))


def unless_at(word, f, n, value):
    """Return the function of a formula, or its known value if the formula is the number n."""
    if is_number(f, n):
        return value
    return applied(word, f)


def joined(word, f, g):
    """Return a formula for an operation, which is one number if both formulas are."""
    if is_fraction(f) and is_fraction(g):
        p, q = operation(word, f[0][1:], g[0][1:])
        return fraction(p, q)
    # Both are tidied, so all their steps are used, and only those of the second one can be repetitions.
    steps = list(f)
    place_of = {step: place for place, step in enumerate(f)}
    places = merged_into(steps, place_of, g)
    return (*steps, (word, len(f) - 1, places[-1]))


def is_fraction(f):
    """Return True if a formula is one number."""
    return len(f) == 1 and f[0][0] == "number"


def is_number(f, n):
    """Return True if a formula is the number n."""
    return is_fraction(f) and f[0][1] == n * f[0][2]
