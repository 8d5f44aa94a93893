"""Conic projections: their number n and their radii."""

from portolan.points import radians
from portolan.terms import ONE
from portolan.terms import difference
from portolan.terms import double
from portolan.terms import exponential_term
from portolan.terms import half
from portolan.terms import logarithm_term
from portolan.terms import product
from portolan.terms import quotient
from portolan.terms import root
from portolan.terms import total
from portolan.trigonometry import cosine_of
from portolan.trigonometry import sine_of
from portolan.trigonometry import stretched


def cone_number(projection):
    """Return a formula for n."""
    name, _, _, b, c = projection
    if name == "albers":
        return half(total(sine_of(b), sine_of(c)))
    ratio = quotient(cosine_of(b), cosine_of(c))
    return quotient(logarithm_term(ratio), difference(stretched(c), stretched(b)))


def is_northern(projection):
    """Return True if n is positive."""
    # Both kinds of n have the sign of the sum of the two parallels.
    return projection[3] + projection[4] > 0


def cone_radius(projection, lat):
    """Return a formula for R(t)."""
    return quotient(cone_width(projection, lat), cone_number(projection))


def cone_width(projection, lat):
    """Return a formula for n R(t), the length of a parallel on the map for each unit of its angle."""
    n = cone_number(projection)
    if projection[0] == "albers":
        return root(difference(albers_constant(projection), product(double(n), sine_of(lat))))
    b = projection[3]
    return product(cosine_of(b), exponential_term(product(n, difference(stretched(b), stretched(lat)))))


def albers_constant(projection):
    """Return a formula for C."""
    # cos(b) cos(b) + 2 n sin(b) is the same, since 2 n is the sum of both sines.
    return total(ONE, product(sine_of(projection[3]), sine_of(projection[4])))


def turned(projection, d):
    """Return a formula for the angle n d on the map, in radians, for an angle d in units."""
    return product(cone_number(projection), radians(d))
