"""Functions in decimal form, for tests: reckoned in other ways than those of the package.

exp, log and square roots are those of Python's decimal module; sine and cosine
are summed up without a reduction; the inverse functions are sought by Newton's
method; pi is reckoned with means of two numbers.
"""

import decimal
import functools
import math
from decimal import Decimal
from fractions import Fraction

DIGITS = 260
decimal.setcontext(decimal.Context(prec=DIGITS + 60, Emax=10 ** 9, Emin=-(10 ** 9)))


def exactly(p, q):
    """The fraction p / q, in decimal form."""
    return Decimal(p) / Decimal(q)


def of_units(n, bits):
    return exactly(n, 2 ** bits)


@functools.lru_cache(None)
def pi():
    a, b, t, p = Decimal(1), 1 / Decimal(2).sqrt(), Decimal(1) / 4, Decimal(1)
    for _ in range(10):
        mean = (a + b) / 2
        b = (a * b).sqrt()
        t -= p * (a - mean) * (a - mean)
        a = mean
        p *= 2
    return (a + b) * (a + b) / (4 * t)


def exp(x):
    return x.exp()


def log(x):
    return x.ln()


def root(x):
    return x.sqrt()


def series(x, term, count):
    """Sum up term, -term x x / ((count + 1) (count + 2)), .."""
    total = Decimal(0)
    tiny = Decimal(10) ** -(DIGITS + 50)
    while abs(term) > tiny or count < 2 * abs(x):
        total += term
        term = -term * x * x / ((count + 1) * (count + 2))
        count += 2
    return total


def sine(x):
    return series(x, x, 1)


def cosine(x):
    return series(x, Decimal(1), 0)


def arctan(x):
    """Seek the angle whose sine and cosine are in proportion to x and 1."""
    if x < 0:
        return -arctan(-x)
    if x > 1:
        return pi() / 2 - arctan(1 / x)
    length = (1 + x * x).sqrt()
    angle = Decimal(math.atan(float(x)))
    for _ in range(6):
        angle += (x * cosine(angle) - sine(angle)) / length
    return angle


def arcsine(x):
    if abs(x) == 1:
        return x * pi() / 2
    return arctan(x / (1 - x * x).sqrt())


def arccosine(x):
    if x == 1:
        return Decimal(0)
    return pi() / 2 - arcsine(x)


FUNCTIONS = {
    "sine": sine, "cosine": cosine, "exp": exp, "log": log, "root": root,
    "arctan": arctan, "arcsine": arcsine, "arccosine": arccosine,
}


def settled(x):
    """A value as a fraction, rounded so that roundings on the way to it do not matter."""
    if isinstance(x, Fraction):
        return x
    return Fraction(round(Fraction(x) * 10 ** DIGITS), 10 ** DIGITS)


def floor_units(x, bits):
    """The greatest integer that is at most x * 2 ** bits."""
    return math.floor(settled(x) * 2 ** bits)


def ceiling_units(x, bits):
    """The least integer that is at least x * 2 ** bits."""
    return math.ceil(settled(x) * 2 ** bits)


def value_of(formula):
    """The value of a sound formula whose numbers are of ordinary size."""
    found = []
    for word, *rest in formula:
        if word == "number":
            found.append(Decimal(rest[0]) / Decimal(rest[1]))
        elif word == "pi":
            found.append(pi())
        elif word == "add":
            found.append(found[rest[0]] + found[rest[1]])
        elif word == "subtract":
            found.append(found[rest[0]] - found[rest[1]])
        elif word == "times":
            found.append(found[rest[0]] * found[rest[1]])
        elif word == "divide":
            found.append(found[rest[0]] / found[rest[1]])
        else:
            found.append(FUNCTIONS[word](found[rest[0]]))
    return found[-1]
