"""Patches between two parallels and two meridians: tuples (south, north, west, east) of angles."""

from portolan.enclosures import hull
from portolan.enclosures import rescaled
from portolan.errors import InvalidPoint
from portolan.errors import NoPlace
from portolan.errors import NoScales
from portolan.points import RIGHT_ANGLE
from portolan.points import is_latitude
from portolan.points import is_longitude
from portolan.points import radians
from portolan.scales import scales
from portolan.sphere import box_area
from portolan.terms import difference
from portolan.terms import product
from portolan.trigonometry import cosine_of
from portolan.trigonometry import stretched
from portolan.values import enclose

STRAIGHT = ("plate", "mercator", "lambert")
# Ends that are enclosed with so many bits more are rounded by less than a unit.
MORE_BITS = 8


def map_area(projection, patch):
    """Return a formula for the area of the image of a patch on a map with a cylinder."""
    demand_straight(projection, patch)
    name = projection[0]
    south, north, west, east = patch
    if name == "mercator":
        demand_no_pole(patch)
        return product(radians(east - west), difference(stretched(north), stretched(south)))
    if name == "lambert":
        return box_area(south, north, west, east)
    return product(product(radians(east - west), cosine_of(projection[3])), radians(north - south))


def quarters(patch):
    """Return the list of the parts, up to four, into which a patch is divided at its middle."""
    south, north, west, east = patch
    lat = (south + north) // 2
    lon = (west + east) // 2
    parts = [(south, lat, west, lon), (south, lat, lon, east), (lat, north, west, lon), (lat, north, lon, east)]
    return [part for part in parts if part[0] < part[1] and part[2] < part[3]]


def scale_bounds(projection, patch, bits):
    """Return enclosures of all parallel scales and of all meridian scales of a patch."""
    demand_straight(projection, patch)
    demand_no_pole(patch)
    south, north = patch[:2]
    near = max(south, min(north, 0))
    far = max(abs(south), abs(north))
    # From the equator to the poles each scale only rises, or only falls.
    least = scales(projection, (near, 0))
    greatest = scales(projection, (far, 0))
    return enclosed_between(least[1], greatest[1], bits), enclosed_between(least[0], greatest[0], bits)


def is_patch(value):
    """Return True if a tuple of four integers is a patch."""
    south, north, west, east = value
    if not is_latitude(south) or not is_latitude(north) or south >= north:
        return False
    return is_longitude(west) and is_longitude(east) and west < east


def demand_straight(projection, patch):
    """Raise InvalidPoint if angles are not those of a patch, and NoScales if its image may be no rectangle."""
    if not is_patch(patch):
        raise InvalidPoint("these are not the sides of a patch")
    if projection[0] not in STRAIGHT:
        raise NoScales("patches are measured on maps with a cylinder only")


def demand_no_pole(patch):
    """Raise NoPlace if a parallel of a patch is a pole."""
    south, north = patch[:2]
    if south == -RIGHT_ANGLE or north == RIGHT_ANGLE:
        raise NoPlace("a pole is not on the map")


def enclosed_between(f, g, bits):
    """Return an enclosure of all numbers between the values of two formulas, which may be in any order."""
    more = bits + MORE_BITS
    return rescaled(hull(enclose(f, more), enclose(g, more)), more, bits)
