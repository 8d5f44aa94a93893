"""Azimuthal projections: a point as it is seen from the center."""

from portolan.points import HALF_TURN
from portolan.points import wrapped
from portolan.terms import ZERO
from portolan.terms import difference
from portolan.terms import opposite
from portolan.terms import product
from portolan.terms import total
from portolan.trigonometry import cosine_of
from portolan.trigonometry import sine_of


def center_of(projection):
    """Return the point at the center of an azimuthal projection."""
    return (projection[1], projection[2])


def seen_from(center, point):
    """Return formulas X, Y, u for a point of the unit sphere: to the east, to the north and towards the center."""
    a, t = center[0], point[0]
    d = wrapped(point[1] - center[1])
    # On the meridian of the center whole angles are added, so that u is known where it is 0.
    if d == 0:
        return ZERO, sine_of(t - a), cosine_of(t - a)
    if d == -HALF_TURN:
        return ZERO, sine_of(t + a), opposite(cosine_of(t + a))
    across = product(cosine_of(t), cosine_of(d))
    x = product(cosine_of(t), sine_of(d))
    y = difference(product(cosine_of(a), sine_of(t)), product(sine_of(a), across))
    u = total(product(sine_of(a), sine_of(t)), product(cosine_of(a), across))
    return x, y, u
