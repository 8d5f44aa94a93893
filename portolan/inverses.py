"""From maps back to the globe."""

from portolan.azimuthals import center_of
from portolan.conics import albers_constant
from portolan.conics import cone_number
from portolan.conics import cone_radius
from portolan.conics import is_northern
from portolan.demands import between
from portolan.demands import demand
from portolan.demands import is_open
from portolan.demands import sign_or_none
from portolan.errors import Undecided
from portolan.errors import Undefined
from portolan.formulas import number
from portolan.points import HALF_TURN
from portolan.points import RIGHT_ANGLE
from portolan.points import made_point
from portolan.points import radians
from portolan.projections import AZIMUTHAL
from portolan.projections import CONIC
from portolan.terms import ONE
from portolan.terms import ZERO
from portolan.terms import arcsine_term
from portolan.terms import arctangent_term
from portolan.terms import cosine_term
from portolan.terms import difference
from portolan.terms import double
from portolan.terms import half
from portolan.terms import logarithm_term
from portolan.terms import opposite
from portolan.terms import product
from portolan.terms import quotient
from portolan.terms import root
from portolan.terms import short
from portolan.terms import square
from portolan.terms import total
from portolan.trigonometry import cosine_of
from portolan.trigonometry import latitude_at_height
from portolan.trigonometry import sine_of
from portolan.trigonometry import steep_angle
from portolan.trigonometry import stretched
from portolan.trigonometry import unstretched
from portolan.values import floor_of
from portolan.values import sign_of

# How far north and south the map of Mercator is read.
GREATEST_HEIGHT = 30


def inverse(projection, x, y):
    """Return formulas in radians for the latitude and the longitude, not wrapped, of a place on the map."""
    name = projection[0]
    if name in AZIMUTHAL:
        lat, d = from_azimuthal(projection, short(x), short(y))
    elif name in CONIC:
        lat, d = from_conic(projection, short(x), short(y))
    elif name == "sinus":
        lat, d = from_sinus(short(x), short(y))
    else:
        lat, d = from_cylinder(projection, short(x), short(y))
    return lat, total(radians(projection[2]), d)


def angle_of(y, x):
    """Return a formula for the angle from -pi to pi whose sine and cosine are in proportion to y and x."""
    across = sign_or_none(x)
    if across == 1:
        return arctangent_term(quotient(short(y), short(x)))
    sign = sign_of(y)
    if sign != 0:
        return steep_angle(short(y), short(x), sign)
    if across == -1:
        return radians(HALF_TURN)
    if across == 0:
        raise Undefined("both numbers are 0")
    raise Undecided("the half of the angle cannot be decided")


def nearest(projection, x, y):
    """Return the point whose angles are the nearest ones to those of a place on the map."""
    lat, lon = inverse(projection, x, y)
    return made_point(nearest_angle(lat), nearest_angle(lon))


def nearest_angle(formula):
    """Return the integer that is nearest to an angle in radians, in units of angle."""
    units = quotient(product(number(HALF_TURN, 1), formula), radians(HALF_TURN))
    return floor_of(total(units, number(1, 2)))


def within_turn(d):
    """Return formulas that are not negative if an angle is from -pi to pi."""
    return between(radians(-HALF_TURN), d, radians(HALF_TURN))


def within_poles(t):
    """Return formulas that are not negative if an angle is from -pi / 2 to pi / 2."""
    return between(radians(-RIGHT_ANGLE), t, radians(RIGHT_ANGLE))


def from_cylinder(projection, x, y):
    """Return the latitude and the difference d of a place on a map with a cylinder."""
    name = projection[0]
    if name == "mercator":
        highest = number(GREATEST_HEIGHT, 1)
        demand(within_turn(x) + between(opposite(highest), y, highest), 0)
        return latitude_at_height(y), x
    width = cosine_of(projection[3])
    d = quotient(x, width)
    if name == "plate":
        demand(within_turn(d) + within_poles(y), 0)
        return y, d
    sine = product(y, width)
    demand(within_turn(d) + between(opposite(ONE), sine, ONE), 0)
    return arcsine_term(sine), d


def from_sinus(x, y):
    """Return the latitude and the difference d of a place on the map `sinus`."""
    # Beyond the poles there is no d, so this is demanded first.
    demand(within_poles(y), 1)
    d = quotient(x, cosine_term(y))
    demand(within_turn(d), 0)
    return y, d


def from_azimuthal(projection, x, y):
    """Return the latitude and the difference d of a place on an azimuthal map."""
    center = center_of(projection)
    if x == ZERO and y == ZERO:
        return radians(center[0]), ZERO
    factor, u = towards(projection[0], total(square(x), square(y)))
    east = product(x, factor)
    north = product(y, factor)
    sine = sine_of(center[0])
    cosine = cosine_of(center[0])
    lat = arcsine_term(total(product(u, sine), product(north, cosine)))
    return lat, angle_of(east, difference(product(u, cosine), product(north, sine)))


def towards(name, squares):
    """Return formulas for sin(c) / r and cos(c), for the distance c from the center, from the square of r."""
    if name == "gnomonic":
        factor = quotient(ONE, root(total(ONE, squares)))
        return factor, factor
    if name == "stereo":
        quarter = product(number(1, 4), squares)
        factor = quotient(ONE, total(ONE, quarter))
        return factor, product(difference(ONE, quarter), factor)
    if name == "ortho":
        rest = difference(ONE, squares)
        demand([rest], 0)
        return ONE, root(rest)
    rest = difference(number(4, 1), squares)
    demand([rest], 1)
    return half(root(rest)), difference(ONE, half(squares))


def from_conic(projection, x, y):
    """Return the latitude and the difference d of a place on a conic map."""
    n = cone_number(projection)
    north = difference(cone_radius(projection, projection[1]), y)
    squares = product(square(n), total(square(x), square(north)))
    if projection[0] == "albers":
        sine = quotient(difference(albers_constant(projection), squares), double(n))
        is_undecided = is_open(between(opposite(ONE), sine, ONE), 0)
        lat = arcsine_term(sine)
    else:
        # The tip is no place on the map, and has no logarithm.
        demand([squares], 1)
        is_undecided = False
        lat = unstretched(cone_height(projection, n, squares))
    z = angle_of(x, north) if is_northern(projection) else angle_of(opposite(x), opposite(north))
    d = quotient(z, n)
    demand(within_turn(d), 0)
    if is_undecided:
        raise Undecided("the latitude may be beyond a pole")
    return lat, d


def cone_height(projection, n, squares):
    """Return a formula for w, from the square of r n."""
    b = projection[3]
    ratio = quotient(squares, square(cosine_of(b)))
    return difference(stretched(b), quotient(half(logarithm_term(ratio)), n))
