"""Projections: tuples of a name and four angles, and the places of points on their maps."""

from portolan.azimuthals import center_of
from portolan.azimuthals import seen_from
from portolan.conics import cone_radius
from portolan.conics import turned
from portolan.errors import NoPlace
from portolan.formulas import number
from portolan.points import DEGREE
from portolan.points import are_opposite
from portolan.points import is_latitude
from portolan.points import is_longitude
from portolan.points import is_pole
from portolan.points import radians
from portolan.points import same_place
from portolan.points import wrapped
from portolan.terms import ONE
from portolan.terms import ZERO
from portolan.terms import cosine_term
from portolan.terms import difference
from portolan.terms import product
from portolan.terms import quotient
from portolan.terms import root
from portolan.terms import sine_term
from portolan.terms import total
from portolan.trigonometry import cosine_of
from portolan.trigonometry import sine_of
from portolan.trigonometry import stretched
from portolan.values import sign_of

NAMES = ("plate", "mercator", "lambert", "sinus", "gnomonic", "stereo", "ortho", "disk", "albers", "cone")
AZIMUTHAL = ("gnomonic", "stereo", "ortho", "disk")
CONIC = ("albers", "cone")
WITH_ONE_PARALLEL = ("plate", "lambert")
CONFORMAL = ("mercator", "stereo", "cone")
EQUAL_AREA = ("lambert", "sinus", "disk", "albers")
# The greatest angles of parallels, and of the latitude lat0 of a cone.
GREATEST_PARALLEL = 800000000
GREATEST_OF_CONE = 850000000


def is_projection(value):
    """Return True if a tuple of a text and four integers is a projection."""
    name, lat0, lon0, lat1, lat2 = value
    if name not in NAMES or not is_longitude(lon0):
        return False
    if name in CONIC:
        return is_latitude_of_cone(name, lat0) and are_parallels(lat1, lat2)
    if name in AZIMUTHAL:
        return is_latitude(lat0) and lat1 == 0 and lat2 == 0
    if name in WITH_ONE_PARALLEL:
        return lat0 == 0 and 0 <= lat1 <= GREATEST_PARALLEL and lat2 == 0
    return lat0 == 0 and lat1 == 0 and lat2 == 0


def forward(projection, point):
    """Return formulas x and y for the place of a point on the map."""
    name = projection[0]
    if name in AZIMUTHAL:
        return azimuthal_place(projection, point)
    if name in ("mercator", "cone") and is_pole(point):
        raise NoPlace("a pole is not on the map")
    d = wrapped(point[1] - projection[2])
    if name in CONIC:
        return conic_place(projection, point[0], d)
    return straight_place(projection, point[0], d)


def kind_of(projection):
    """Return what a projection preserves."""
    name = projection[0]
    if name in CONFORMAL:
        return "conformal"
    if name in EQUAL_AREA:
        return "equal-area"
    return "other"


def is_latitude_of_cone(name, lat0):
    """Return True if an angle may be the latitude lat0 of a conic projection."""
    if name == "cone":
        return -GREATEST_OF_CONE <= lat0 <= GREATEST_OF_CONE
    return is_latitude(lat0)


def are_parallels(lat1, lat2):
    """Return True if two angles may be the parallels of a conic projection."""
    return -GREATEST_PARALLEL <= lat1 < lat2 <= GREATEST_PARALLEL and abs(lat1 + lat2) >= DEGREE


def straight_place(projection, lat, d):
    """Return the place of a point on a map with straight parallels."""
    name = projection[0]
    if name == "mercator":
        return radians(d), stretched(lat)
    if name == "sinus":
        return product(radians(d), cosine_of(lat)), radians(lat)
    width = cosine_of(projection[3])
    x = product(radians(d), width)
    if name == "plate":
        return x, radians(lat)
    return x, quotient(sine_of(lat), width)


def azimuthal_place(projection, point):
    """Return the place of a point on an azimuthal map."""
    name = projection[0]
    if same_place(center_of(projection), point):
        return ZERO, ZERO
    x, y, u = seen_on_map(projection, point)
    if name == "gnomonic":
        return quotient(x, u), quotient(y, u)
    if name == "ortho":
        return x, y
    factor = stereo_factor(u)
    if name == "disk":
        factor = root(factor)
    return product(x, factor), product(y, factor)


def seen_on_map(projection, point):
    """Return X, Y, u for a point that has a place on an azimuthal map."""
    name = projection[0]
    center = center_of(projection)
    if name in ("stereo", "disk") and are_opposite(center, point):
        raise NoPlace("the antipode of the center is not on the map")
    x, y, u = seen_from(center, point)
    if name == "gnomonic":
        demand_seen(u, 1)
    if name == "ortho":
        demand_seen(u, 0)
    return x, y, u


def stereo_factor(u):
    """Return a formula for 2 / (1 + u)."""
    return quotient(number(2, 1), total(ONE, u))


def demand_seen(u, least):
    """Raise NoPlace if the sign of u is less than it may be."""
    if sign_of(u) < least:
        raise NoPlace("the point is too far from the center")


def conic_place(projection, lat, d):
    """Return the place of a point on a conic map."""
    radius = cone_radius(projection, lat)
    angle = turned(projection, d)
    x = product(radius, sine_term(angle))
    y = difference(cone_radius(projection, projection[1]), product(radius, cosine_term(angle)))
    return x, y
