"""Polygons in the plane for tests: decided side by side, with fractions."""

import math
import random
from fractions import Fraction


def xy(point):
    return point[1], point[0]


def sides(polygon):
    return [(polygon[k - 1], polygon[k]) for k in range(len(polygon))]


def common_places(first, second):
    """The places that two sides have in common: None, one place, or two ends of a line."""
    (ax, ay), (bx, by) = map(xy, first)
    (cx, cy), (dx, dy) = map(xy, second)
    rx, ry, sx, sy = bx - ax, by - ay, dx - cx, dy - cy
    parallel = rx * sy - ry * sx
    if parallel != 0:
        t = Fraction((cx - ax) * sy - (cy - ay) * sx, parallel)
        u = Fraction((cx - ax) * ry - (cy - ay) * rx, parallel)
        if 0 <= t <= 1 and 0 <= u <= 1:
            return [(ay + t * ry, ax + t * rx)]
        return []
    if (cx - ax) * ry != (cy - ay) * rx:
        return []
    # On one line: the part of each by the other coordinate, which is not always the same.
    length = rx * rx + ry * ry
    ends = sorted(Fraction((x - ax) * rx + (y - ay) * ry, length) for x, y in ((cx, cy), (dx, dy)))
    low, high = max(Fraction(0), ends[0]), min(Fraction(1), ends[1])
    if low > high:
        return []
    found = [(ay + low * ry, ax + low * rx)]
    if high > low:
        found.append((ay + high * ry, ax + high * rx))
    return found


def is_simple(polygon):
    found = sides(polygon)
    many = len(found)
    if any(a == b for a, b in found):
        return False
    for i in range(many):
        for k in range(i):
            wanted = []
            if i - k == 1:
                wanted = [polygon[k]]
            elif i - k == many - 1:
                wanted = [polygon[many - 1]]
            if common_places(found[i], found[k]) != wanted:
                return False
    return True


def double_area(polygon):
    """Twice the area, by the triangles at the first corner."""
    total = 0
    x0, y0 = xy(polygon[0])
    for b, c in zip(polygon[1:], polygon[2:]):
        (bx, by), (cx, cy) = xy(b), xy(c)
        total += (bx - x0) * (cy - y0) - (cx - x0) * (by - y0)
    return total


def where(polygon, point):
    """Sides that pass the meridian of a point north of it are counted."""
    x, y = xy(point)
    is_inside = False
    for a, b in sides(polygon):
        (ax, ay), (bx, by) = xy(a), xy(b)
        if (bx - ax) * (y - ay) == (by - ay) * (x - ax):
            if min(ax, bx) <= x <= max(ax, bx) and min(ay, by) <= y <= max(ay, by):
                return "edge"
        if (ax <= x) != (bx <= x):
            if ay + Fraction((by - ay) * (x - ax), bx - ax) > y:
                is_inside = not is_inside
    return "inside" if is_inside else "outside"


def random_polygon(chance, corners, lat, lon):
    """Corners on a grid; with neighbors that are near to each other in direction it is often simple."""
    points = [(chance.randint(-lat, lat), chance.randint(-lon, lon)) for _ in range(corners)]
    if chance.random() < 0.7:
        points.sort(key=lambda p: math.atan2(p[0], p[1]))
    if chance.random() < 0.5:
        points.reverse()
    return points


def simple_polygons(seed, many, lat, lon):
    chance = random.Random(seed)
    found = []
    while len(found) < many:
        polygon = random_polygon(chance, chance.randint(3, 8), lat, lon)
        if is_simple(polygon):
            found.append(polygon)
    return found
