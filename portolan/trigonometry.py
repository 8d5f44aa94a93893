"""Formulas for sines and cosines of angles, which are numbers for whole right angles."""

from portolan.formulas import applied
from portolan.formulas import number
from portolan.points import RIGHT_ANGLE
from portolan.points import radians
from portolan.points import wrapped
from portolan.terms import artanh

# The values at whole right angles.
SINES = (0, 1, 0, -1)
COSINES = (1, 0, -1, 0)


def sine_of(angle):
    """Return a formula for the sine of an angle in units."""
    return wave_of("sine", SINES, wrapped(angle))


def cosine_of(angle):
    """Return a formula for the cosine of an angle in units."""
    # Opposite angles give the same formula, so that its steps are merged.
    return wave_of("cosine", COSINES, abs(wrapped(angle)))


def stretched(lat):
    """Return a formula for artanh(sin(t)), for the value t of a latitude that is not that of a pole."""
    return artanh(sine_of(lat))


def wave_of(word, values, angle):
    """Return a formula for the sine or cosine of an angle."""
    quarters, rest = divmod(angle, RIGHT_ANGLE)
    if rest == 0:
        return number(values[quarters % 4], 1)
    return applied(word, radians(angle))
