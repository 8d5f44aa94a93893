"""Other latitudes on an ellipsoid, areas of its zones, and the latitude of a place in space."""

from portolan.ellipsoids import eccentric_part
from portolan.ellipsoids import half_axis
from portolan.ellipsoids import polar_part
from portolan.ellipsoids import shrinking
from portolan.enclosures import negated
from portolan.errors import AtPole
from portolan.errors import InvalidPoint
from portolan.errors import TooDeep
from portolan.formulas import number
from portolan.formulas import pi_formula
from portolan.points import RIGHT_ANGLE
from portolan.points import is_latitude
from portolan.points import radians
from portolan.terms import arcsine_term
from portolan.terms import arctangent_term
from portolan.terms import artanh
from portolan.terms import cosine_term
from portolan.terms import difference
from portolan.terms import double
from portolan.terms import fraction
from portolan.terms import product
from portolan.terms import quotient
from portolan.terms import root
from portolan.terms import sine_term
from portolan.terms import total
from portolan.trigonometry import cosine_of
from portolan.trigonometry import sine_of
from portolan.trigonometry import stretched
from portolan.trigonometry import unstretched
from portolan.values import enclose
from portolan.values import sign_of


def parametric_latitude(ellipsoid, lat):
    """Return a formula for the latitude on the sphere around the ellipsoid, at the same distance from the axis."""
    a = ellipsoid[0]
    return flattened(ellipsoid, lat, quotient(half_axis(ellipsoid), number(a, 1)))


def geocentric_latitude(ellipsoid, lat):
    """Return a formula for the latitude as seen from the center."""
    return flattened(ellipsoid, lat, polar_part(ellipsoid))


def isometric_latitude(ellipsoid, lat):
    """Return a formula for the latitude that makes a conformal map with straight meridians."""
    if abs(lat) == RIGHT_ANGLE:
        raise AtPole("the isometric latitude of a pole is not finite")
    e = root(eccentric_part(ellipsoid))
    return difference(stretched(lat), product(e, artanh(product(e, sine_of(lat)))))


def conformal_latitude(ellipsoid, lat):
    """Return a formula for the latitude on a sphere onto which the ellipsoid is mapped with the same angles."""
    if is_plain(ellipsoid, lat):
        return radians(lat)
    return unstretched(isometric_latitude(ellipsoid, lat))


def authalic_latitude(ellipsoid, lat):
    """Return a formula for the latitude on a sphere onto which the ellipsoid is mapped with the same areas."""
    if is_plain(ellipsoid, lat):
        return radians(lat)
    return arcsine_term(quotient(zone_height(ellipsoid, lat), zone_height(ellipsoid, RIGHT_ANGLE)))


def zone_area(ellipsoid, south, north):
    """Return a formula for the area of the ellipsoid between two parallels."""
    if south > north or not is_latitude(south) or not is_latitude(north):
        raise InvalidPoint("these are not two parallels")
    a = ellipsoid[0]
    height = difference(zone_height(ellipsoid, north), zone_height(ellipsoid, south))
    return product(product(number(a * a, 1), pi_formula()), height)


def latitude_of(ellipsoid, x, z, bits):
    """Return an enclosure of the latitude of the place whose normal goes through a point in space."""
    a = ellipsoid[0]
    if 4 * (x * x + z * z) < a * a:
        raise TooDeep("the point is too near to the center")
    if z < 0:
        return negated(latitude_of(ellipsoid, x, -z, bits))
    if x == 0:
        return enclose(radians(RIGHT_ANGLE), bits)
    if is_sphere(ellipsoid):
        return enclose(arctangent_term(fraction(z, x)), bits)
    low = 0
    # An angle of 2 is beyond the pole, where the normal still passes on the same side.
    high = 2 << bits
    while high - low > 1:
        middle = (low + high) // 2
        if sign_of(beside_normal(ellipsoid, x, z, fraction(middle, 1 << bits))) > 0:
            high = middle
        else:
            low = middle
    return (low, high)


def beside_normal(ellipsoid, x, z, t):
    """Return a formula for x sin(t) - z cos(t) - e2 N sin(t) cos(t), for an angle in radians."""
    sine = sine_term(t)
    cosine = cosine_term(t)
    normal = quotient(number(ellipsoid[0], 1), root(shrinking(ellipsoid, sine)))
    shift = product(product(eccentric_part(ellipsoid), normal), product(sine, cosine))
    return difference(difference(product(number(x, 1), sine), product(number(z, 1), cosine)), shift)


def is_sphere(ellipsoid):
    """Return True if an ellipsoid is not flattened."""
    return ellipsoid[1] == 0


def is_plain(ellipsoid, lat):
    """Return True if the other latitudes, but the isometric one, are the latitude itself."""
    return is_sphere(ellipsoid) or lat == 0 or abs(lat) == RIGHT_ANGLE


def flattened(ellipsoid, lat, factor):
    """Return a formula for the arctangent of a factor times tan(t)."""
    if is_plain(ellipsoid, lat):
        return radians(lat)
    return arctangent_term(quotient(product(factor, sine_of(lat)), cosine_of(lat)))


def zone_height(ellipsoid, lat):
    """Return a formula for s, with which areas of zones grow."""
    sine = sine_of(lat)
    if is_sphere(ellipsoid):
        return double(sine)
    e = root(eccentric_part(ellipsoid))
    slope = quotient(sine, shrinking(ellipsoid, sine))
    return product(polar_part(ellipsoid), total(slope, quotient(artanh(product(e, sine)), e)))
