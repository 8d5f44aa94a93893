"""Conic projections: their number n and their radii."""

from portolan.points import radians
from portolan.terms import ONE
from portolan.terms import difference
from portolan.terms import double
from portolan.terms import exponential_term
from portolan.terms import half
from portolan.terms import logarithm_term
from portolan.terms import product
from portolan.terms import quotient
from portolan.terms import root
from portolan.terms import total
from portolan.trigonometry import cosine_of
from portolan.trigonometry import sine_of
from portolan.trigonometry import stretched


def cone_number(projection):
    """Return a formula for n."""
    name, _, _, b, c = projection
    if name == "albers":
        return half(total(sine_of(b), sine_of(c)))
    ratio = quotient(cosine_of(b), cosine_of(c))
    return quotient(logarithm_term(ratio), difference(stretched(c), stretched(b)))


def is_northern(projection):
    """Return True if n is positive."""
    # Both kinds of n have the sign of the sum of the two parallels.
    return projection[3] + projection[4] > 0


def cone_radius(projection, lat):
    """Return a formula for R(t)."""
    n = cone_number(projection)
    if projection[0] == "albers":
        inside = difference(albers_constant(projection), product(double(n), sine_of(lat)))
        return quotient(root(inside), n)
    b = projection[3]
    power = exponential_term(product(n, difference(stretched(b), stretched(lat))))
    return quotient(product(cosine_of(b), power), n)


def albers_constant(projection):
    """Return a formula for C."""
    # cos(b) cos(b) + 2 n sin(b) is the same, since 2 n is the sum of both sines.
    return total(ONE, product(sine_of(projection[3]), sine_of(projection[4])))


def turned(projection, d):
    """Return a formula for the angle n d on the map, in radians, for an angle d in units."""
    return product(cone_number(projection), radians(d))
