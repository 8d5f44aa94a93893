"""Formulas for sines and cosines of angles, which are numbers for whole right angles, and for what is made of them."""

from portolan.formulas import applied
from portolan.formulas import number
from portolan.points import RIGHT_ANGLE
from portolan.points import radians
from portolan.points import wrapped
from portolan.terms import ZERO
from portolan.terms import arctangent_term
from portolan.terms import artanh
from portolan.terms import difference
from portolan.terms import double
from portolan.terms import exponential_term
from portolan.terms import half
from portolan.terms import is_number
from portolan.terms import opposite
from portolan.terms import quotient
from portolan.terms import square
from portolan.values import enclose

# The values at whole right angles.
SINES = (0, 1, 0, -1)
COSINES = (1, 0, -1, 0)
# The greatest number to which e is raised at once; a step can do a little more.
GREATEST_POWER = 60
FEW_BITS = 8


def sine_of(angle):
    """Return a formula for the sine of an angle in units."""
    return wave_of("sine", SINES, wrapped(angle))


def cosine_of(angle):
    """Return a formula for the cosine of an angle in units."""
    # Opposite angles give the same formula, so that its steps are merged.
    return wave_of("cosine", COSINES, abs(wrapped(angle)))


def stretched(lat):
    """Return a formula for artanh(sin(t)), for the value t of a latitude that is not that of a pole."""
    return artanh(sine_of(lat))


def latitude_at_height(y):
    """Return a formula for the latitude in radians at a height y, from -64 to 64, on the map of Mercator."""
    return arctangent_term(half(difference(exponential_term(y), exponential_term(opposite(y)))))


def unstretched(w):
    """Return a formula for the latitude t in radians with artanh(sin(t)) = w."""
    if is_number(w, 0):
        return ZERO
    whole = enclose(w, FEW_BITS)[0] >> FEW_BITS
    if whole > GREATEST_POWER:
        # A great power of e would need all its digits, a small one does not.
        return opposite(unstretched(opposite(w)))
    return difference(double(arctangent_term(power_of_e(w, -whole))), radians(RIGHT_ANGLE))


def power_of_e(w, size):
    """Return a formula for e to the power of w, where `size` is about the absolute value of a great negative w."""
    if size <= GREATEST_POWER:
        return exponential_term(w)
    return square(power_of_e(half(w), size // 2))


def steep_angle(y, x, sign):
    """Return a formula for the angle whose sine and cosine are in proportion to y, which has this sign, and x."""
    return difference(radians(sign * RIGHT_ANGLE), arctangent_term(quotient(x, y)))


def wave_of(word, values, angle):
    """Return a formula for the sine or cosine of an angle."""
    quarters, rest = divmod(angle, RIGHT_ANGLE)
    if rest == 0:
        return number(values[quarters % 4], 1)
    return applied(word, radians(angle))
