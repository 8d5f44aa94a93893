"""How much longer and greater things are on a map than on the sphere with the radius 1."""

from portolan.conics import cone_width
from portolan.errors import AtPole
from portolan.errors import NoScales
from portolan.points import is_pole
from portolan.projections import AZIMUTHAL
from portolan.projections import CONIC
from portolan.projections import kind_of
from portolan.projections import seen_on_map
from portolan.projections import stereo_factor
from portolan.terms import ONE
from portolan.terms import product
from portolan.terms import quotient
from portolan.terms import square
from portolan.trigonometry import cosine_of

WITHOUT_SCALES = ("sinus", "gnomonic", "ortho", "disk")
# On the maps of these a pole is a line, or nowhere.
WITHOUT_POLES = ("plate", "mercator", "lambert", "cone", "albers")


def scales(projection, point):
    """Return formulas h and k for the meridian scale and the parallel scale at a point."""
    name = projection[0]
    if name in WITHOUT_SCALES:
        raise NoScales("this projection has no such scales")
    if is_pole(point):
        raise AtPole("there are no scales at a pole")
    if name == "stereo":
        k = stereo_factor(seen_on_map(projection, point)[2])
    else:
        k = parallel_scale(projection, point[0])
    if name == "plate":
        return ONE, k
    if kind_of(projection) == "conformal":
        return k, k
    return quotient(ONE, k), k


def area_scale(projection, point):
    """Return a formula for the area of a small patch on the map, divided by its area on the sphere."""
    name = projection[0]
    if name in WITHOUT_POLES and is_pole(point):
        raise AtPole("there is no area scale at a pole")
    if name in AZIMUTHAL:
        return azimuthal_area_scale(name, seen_on_map(projection, point)[2])
    if kind_of(projection) == "equal-area":
        return ONE
    h, k = scales(projection, point)
    return product(h, k)


def parallel_scale(projection, lat):
    """Return a formula for k on a map with a cylinder or a cone, at a latitude that is not that of a pole."""
    if projection[0] in CONIC:
        return quotient(cone_width(projection, lat), cosine_of(lat))
    # The angle lat1 of `mercator` is 0.
    return quotient(cosine_of(projection[3]), cosine_of(lat))


def azimuthal_area_scale(name, u):
    """Return a formula for the area scale of an azimuthal map, where the distance from its center has the cosine u."""
    if name == "gnomonic":
        return quotient(ONE, product(u, square(u)))
    if name == "stereo":
        return square(stereo_factor(u))
    if name == "ortho":
        return u
    return ONE
