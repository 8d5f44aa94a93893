"""Ellipsoids: tuples of the greater half axis and the two numbers of the flattening."""

from portolan.exact import lowest_terms
from portolan.formulas import number
from portolan.terms import ONE
from portolan.terms import difference
from portolan.terms import fraction
from portolan.terms import product
from portolan.terms import quotient
from portolan.terms import root
from portolan.terms import square
from portolan.terms import total
from portolan.trigonometry import cosine_of
from portolan.trigonometry import sine_of

WGS84 = (6378137, 1000000000, 298257223563)


def is_ellipsoid(value):
    """Return True if a tuple of three integers is an ellipsoid."""
    a, p, q = value
    return a >= 1 and p >= 0 and q >= 1 and 10 * p <= q


def eccentricity2(ellipsoid):
    """Return e2 as a tuple of numerator and denominator in lowest terms."""
    _, p, q = ellipsoid
    return lowest_terms(p * (2 * q - p), q * q)


def half_axis(ellipsoid):
    """Return a formula for the lesser half axis b."""
    a, p, q = ellipsoid
    return fraction(a * (q - p), q)


def normal_radius(ellipsoid, lat):
    """Return a formula for the radius N, from the axis to a place along its normal."""
    return quotient(number(ellipsoid[0], 1), root(shrinking(ellipsoid, sine_of(lat))))


def meridian_radius(ellipsoid, lat):
    """Return a formula for the radius M of the curve of a meridian."""
    inside = shrinking(ellipsoid, sine_of(lat))
    return quotient(product(number(ellipsoid[0], 1), polar_part(ellipsoid)), product(inside, root(inside)))


def position(ellipsoid, point, height):
    """Return formulas for the coordinates in space of a place above a point."""
    lat, lon = point
    above = number(height, 1)
    normal = normal_radius(ellipsoid, lat)
    x = product(total(normal, above), cosine_of(lat))
    z = product(total(product(normal, polar_part(ellipsoid)), above), sine_of(lat))
    return product(x, cosine_of(lon)), product(x, sine_of(lon)), z


def eccentric_part(ellipsoid):
    """Return a formula for e2."""
    p, q = eccentricity2(ellipsoid)
    return number(p, q)


def polar_part(ellipsoid):
    """Return a formula for 1 - e2."""
    return difference(ONE, eccentric_part(ellipsoid))


def shrinking(ellipsoid, sine):
    """Return a formula for 1 - e2 sin(t) sin(t), from one for sin(t)."""
    return difference(ONE, product(eccentric_part(ellipsoid), square(sine)))
