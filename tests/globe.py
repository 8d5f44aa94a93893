"""Places on the globe and on maps in decimal form, for tests: reckoned as the document writes them."""

import functools
from decimal import Decimal

from tests import decimals
from tests.decimals import arctan
from tests.decimals import exactly
from tests.decimals import pi

DEGREE = 10 ** 7
TURN = 360 * DEGREE


def rad(angle):
    """An angle in units, in radians."""
    return exactly(angle, 180 * DEGREE) * pi()


@functools.lru_cache(None)
def sin(angle):
    """The sine of an angle in units; what is 0 is exactly 0."""
    if angle % (TURN // 2) == 0:
        return Decimal(0)
    return decimals.sine(rad(turned(angle)))


@functools.lru_cache(None)
def cos(angle):
    if angle % (TURN // 2) == TURN // 4:
        return Decimal(0)
    return decimals.cosine(rad(turned(angle)))


def turned(angle):
    """The angle from -180 to less than 180 degrees, counted in whole turns."""
    while angle >= TURN // 2:
        angle -= TURN
    while angle < -(TURN // 2):
        angle += TURN
    return angle


def atan2(y, x):
    """The angle from -pi to pi whose sine and cosine are in proportion to y and x."""
    if y == 0:
        return Decimal(0) if x > 0 else pi()
    if abs(x) <= abs(y):
        return (pi() / 2 if y > 0 else -pi() / 2) - arctan(x / y)
    if x > 0:
        return arctan(y / x)
    return arctan(y / x) + (pi() if y > 0 else -pi())


def artanh(x):
    return ((1 + x) / (1 - x)).ln() / 2


def cosine_between(p, q):
    """The cosine of the distance of two points."""
    return sin(p[0]) * sin(q[0]) + cos(p[0]) * cos(q[0]) * cos(p[1] - q[1])


def coordinates(projection, point):
    """The place (x, y) of a point on the map (point 8.1)."""
    name, lat0, lon0, lat1, lat2 = projection
    lat = point[0]
    d = turned(point[1] - lon0)
    if name == "plate":
        return rad(d) * cos(lat1), rad(lat)
    if name == "mercator":
        return rad(d), artanh(sin(lat))
    if name == "lambert":
        return rad(d) * cos(lat1), sin(lat) / cos(lat1)
    if name == "sinus":
        return rad(d) * cos(lat), rad(lat)
    if name in ("albers", "cone"):
        n = cone_number(projection)
        angle = n * rad(d)
        radius = cone_radius(projection, lat)
        return radius * decimals.sine(angle), cone_radius(projection, lat0) - radius * decimals.cosine(angle)
    u = cosine_between((lat0, lon0), point)
    x = cos(lat) * sin(d)
    y = cos(lat0) * sin(lat) - sin(lat0) * cos(lat) * cos(d)
    factor = {"gnomonic": lambda: 1 / u, "stereo": lambda: 2 / (1 + u), "ortho": lambda: Decimal(1),
              "disk": lambda: (2 / (1 + u)).sqrt()}[name]()
    return x * factor, y * factor


def has_place(projection, point):
    """Whether a point is on the map, reckoned in decimal form."""
    name, lat0, lon0, _, _ = projection
    if name in ("mercator", "cone"):
        return abs(point[0]) != TURN // 4
    u = cosine_between((lat0, lon0), point)
    tiny = Decimal(10) ** -200
    if name == "gnomonic":
        return u > tiny
    if name == "ortho":
        return u > -tiny
    if name in ("stereo", "disk"):
        return u > tiny - 1
    return True


def cone_number(projection):
    name, _, _, lat1, lat2 = projection
    if name == "albers":
        return (sin(lat1) + sin(lat2)) / 2
    return (cos(lat1) / cos(lat2)).ln() / (artanh(sin(lat2)) - artanh(sin(lat1)))


def cone_radius(projection, lat):
    name, _, _, lat1, _ = projection
    n = cone_number(projection)
    if name == "albers":
        constant = cos(lat1) * cos(lat1) + 2 * n * sin(lat1)
        return (constant - 2 * n * sin(lat)).sqrt() / n
    return cos(lat1) * (n * (artanh(sin(lat1)) - artanh(sin(lat)))).exp() / n


def vector(p):
    """The direction of a point in space."""
    lat, lon = p
    return cos(lat) * cos(lon), cos(lat) * sin(lon), sin(lat)


def dot(v, w):
    return sum((a * b for a, b in zip(v, w)), Decimal(0))


def cross(v, w):
    return v[1] * w[2] - v[2] * w[1], v[2] * w[0] - v[0] * w[2], v[0] * w[1] - v[1] * w[0]


def length(v):
    return dot(v, v).sqrt()


def angle_between(v, w):
    """The angle between two vectors, by its tangent."""
    return atan2(length(cross(v, w)), dot(v, w))


def solid_angle(p, q, r):
    """The signed area of a triangle from its three angles, positive counter-clockwise."""
    places = [vector(p), vector(q), vector(r)]
    turn = dot(places[0], cross(places[1], places[2]))
    total = -pi()
    for k in range(3):
        here, left, right = places[k], places[k - 1], places[(k + 1) % 3]
        total += angle_between(cross(here, left), cross(here, right))
    return total if turn > 0 else -total
