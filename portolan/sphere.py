"""Directions, ways and areas on the sphere with the radius 1."""

from portolan.azimuthals import seen_from
from portolan.demands import sign_or_none
from portolan.errors import InvalidPoint
from portolan.errors import NoBearing
from portolan.errors import NoMidpoint
from portolan.errors import Undecided
from portolan.inverses import angle_of
from portolan.points import FULL_TURN
from portolan.points import RIGHT_ANGLE
from portolan.points import are_opposite
from portolan.points import is_latitude
from portolan.points import is_pole
from portolan.points import radians
from portolan.points import same_place
from portolan.points import wrapped
from portolan.terms import ONE
from portolan.terms import ZERO
from portolan.terms import arccosine_term
from portolan.terms import arcsine_term
from portolan.terms import arctangent_term
from portolan.terms import cosine_term
from portolan.terms import difference
from portolan.terms import double
from portolan.terms import opposite
from portolan.terms import product
from portolan.terms import quotient
from portolan.terms import root
from portolan.terms import short
from portolan.terms import sine_term
from portolan.terms import square
from portolan.terms import total
from portolan.terms import total_of
from portolan.trigonometry import cosine_of
from portolan.trigonometry import sine_of
from portolan.trigonometry import steep_angle
from portolan.values import enclose

FEW_BITS = 8
# In units of FEW_BITS bits: up to here, a number is certainly an arcsine's argument.
FAR_FROM_ONE = 250


def direction(p):
    """Return formulas for the coordinates of a point in space."""
    lat, lon = p
    cosine = cosine_of(lat)
    return product(cosine, cosine_of(lon)), product(cosine, sine_of(lon)), sine_of(lat)


def distance(p, q):
    """Return a formula for the length of the shortest way."""
    return arccosine_term(cosine_between(p, q))


def chord(p, q):
    """Return a formula for the length of the straight line."""
    return root(double(difference(ONE, cosine_between(p, q))))


def bearing(p, q):
    """Return a formula for the direction in which the shortest way begins."""
    if is_pole(p):
        raise NoBearing("every way from a pole leads to the same side")
    demand_circle(p, q)
    east, north, _ = seen_from(p, q)
    if east == ZERO:
        return angle_of(east, north)
    # The sign of the sine is known, so that nothing has to be decided.
    return steep_angle(east, north, 1 if wrapped(q[1] - p[1]) > 0 else -1)


def reached(p, azimuth, length):
    """Return formulas for the latitude and the longitude, not wrapped, of the end of a way."""
    if is_pole(p):
        raise NoBearing("a way from a pole has no angle to the north")
    way = short(length)
    sine = sine_of(p[0])
    cosine = cosine_of(p[0])
    ahead = product(sine_term(way), cosine_of(azimuth))
    lat = arcsine_term(total(product(sine, cosine_term(way)), product(cosine, ahead)))
    east = product(sine_term(way), sine_of(azimuth))
    turn = angle_of(east, difference(product(cosine, cosine_term(way)), product(sine, ahead)))
    return lat, total(radians(p[1]), turn)


def midpoint(p, q):
    """Return formulas for the coordinates in space of the place in the middle."""
    if are_opposite(p, q):
        raise NoMidpoint("the places are opposite to each other")
    length = root(double(total(ONE, cosine_between(p, q))))
    x, y, z = [quotient(total(f, g), length) for f, g in zip(direction(p), direction(q))]
    return x, y, z


def cross_track(p, q, r):
    """Return a formula for the distance of r from the great circle, positive on the left."""
    demand_circle(p, q)
    length = root(difference(ONE, square(cosine_between(p, q))))
    height = quotient(triple_product(p, q, r), length)
    low, high = enclose(height, FEW_BITS)
    if -FAR_FROM_ONE < low and high < FAR_FROM_ONE:
        return arcsine_term(height)
    along = cosine_between(p, r)
    ahead = quotient(difference(cosine_between(q, r), product(along, cosine_between(p, q))), length)
    if low > 0:
        return near_right_angle(height, along, ahead)
    return opposite(near_right_angle(opposite(height), along, ahead))


def triangle_area(p, q, r):
    """Return a formula for the signed area of a triangle."""
    if are_opposite(p, q) or are_opposite(q, r) or are_opposite(r, p):
        raise NoMidpoint("two points are opposite to each other")
    t = triple_product(p, q, r)
    below = total_of([ONE, cosine_between(p, q), cosine_between(q, r), cosine_between(r, p)])
    if sign_or_none(below) == 1:
        return double(arctangent_term(quotient(t, below)))
    sign = sign_or_none(t)
    if sign is None or sign == 0:
        raise Undecided("the points may lie around a great circle")
    return double(steep_angle(t, below, sign))


def box_area(south, north, west, east):
    """Return a formula for the area between two parallels and two meridians."""
    if south > north or not is_latitude(south) or not is_latitude(north):
        raise InvalidPoint("these are not two parallels")
    if west > east or east - west > FULL_TURN:
        raise InvalidPoint("these are not two meridians")
    return product(radians(east - west), difference(sine_of(north), sine_of(south)))


def demand_circle(p, q):
    """Raise NoBearing if there is not exactly one great circle through both points."""
    if same_place(p, q) or are_opposite(p, q):
        raise NoBearing("the places are the same, or opposite to each other")


def cosine_between(p, q):
    """Return a formula for the product of two directions, which is a number for the same place and opposite ones."""
    return seen_from(p, q)[2]


def triple_product(p, q, r):
    """Return a formula for the product of p with the cross product of q and r."""
    first = seen_from(p, q)
    second = seen_from(p, r)
    return difference(product(first[0], second[1]), product(first[1], second[0]))


def near_right_angle(height, along, ahead):
    """Return a formula for the arcsine of a height that may be 1, of a direction with these three coordinates."""
    # A product of cosines is known to be at most 1, so its arccosine can be decided.
    aside = cosine_term(arctangent_term(quotient(along, height)))
    beyond = cosine_term(arctangent_term(quotient(ahead, root(total(square(along), square(height))))))
    return difference(radians(RIGHT_ANGLE), arccosine_term(product(aside, beyond)))
