"""Angles in units of 1 / 10 000 000 degree, and points, which are pairs of a latitude and a longitude."""

from portolan.errors import InvalidPoint
from portolan.formulas import number
from portolan.formulas import over
from portolan.formulas import pi_formula
from portolan.formulas import times
from portolan.terms import fraction
from portolan.terms import product

DEGREE = 10000000
RIGHT_ANGLE = 900000000
HALF_TURN = 1800000000
FULL_TURN = 3600000000


def is_point(value):
    """Return True if a tuple of two integers is a point."""
    lat, lon = value
    return is_latitude(lat) and is_longitude(lon)


def is_latitude(angle):
    """Return True if an angle is from -90 to 90 degrees."""
    return -RIGHT_ANGLE <= angle <= RIGHT_ANGLE


def is_longitude(angle):
    """Return True if an angle is at least -180 and less than 180 degrees."""
    return -HALF_TURN <= angle < HALF_TURN


def wrapped(angle):
    """Return the angle from -180 to less than 180 degrees that differs by full turns."""
    return (angle + HALF_TURN) % FULL_TURN - HALF_TURN


def made_point(lat, lon):
    """Return the point with a latitude and a wrapped longitude."""
    if not is_latitude(lat):
        raise InvalidPoint("the latitude is beyond a pole")
    return (lat, wrapped(lon))


def antipode(point):
    """Return the point that is opposite to a point."""
    lat, lon = point
    return (-lat, wrapped(lon + HALF_TURN))


def is_pole(point):
    """Return True if a point is the north pole or the south pole."""
    return abs(point[0]) == RIGHT_ANGLE


def same_place(p, q):
    """Return True if points are equal, or the same pole."""
    return p == q or (is_pole(p) and p[0] == q[0])


def are_opposite(p, q):
    """Return True if a point is the same place as the antipode of another one."""
    return same_place(antipode(p), q)


def radians(angle):
    """Return a formula for an angle in radians."""
    return product(fraction(angle, HALF_TURN), pi_formula())


def degrees(formula):
    """Return a formula for 180 / pi times the value of a formula."""
    return times(over(number(180, 1), pi_formula()), formula)
