"""Areas of polygons on a map, and the lengths of their sides on the sphere with the radius 1."""

from portolan.formulas import number
from portolan.points import radians
from portolan.polygons import sides_of
from portolan.sphere import distance
from portolan.terms import half
from portolan.terms import product
from portolan.terms import total_of
from portolan.trigonometry import sine_of


def map_polygon_area(polygon):
    """Return a formula for the signed area on the map of `lambert`, positive if the corners go counter-clockwise."""
    before = polygon[-1:] + polygon[:-1]
    behind = polygon[1:] + polygon[:1]
    # In the sum over the sides, the sine of each latitude stands with the longitudes of both neighbors.
    parts = [product(number(a[1] - c[1], 1), sine_of(b[0])) for a, b, c in zip(before, polygon, behind)]
    return half(product(radians(1), total_of(parts)))


def perimeter(polygon):
    """Return a formula for the sum of the distances of neighboring corners."""
    return total_of([distance(p, q) for p, q in sides_of(polygon)])
