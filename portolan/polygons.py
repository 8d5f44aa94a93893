"""Polygons in the plane of longitude and latitude: lists of points, which are decided with whole numbers."""

from portolan.errors import NoHalves


def is_simple(polygon):
    """Return True if no two sides have a place in common but neighbors their corner, and no side has the length 0."""
    sides = sides_of(polygon)
    for (a, b), (_, c) in zip(sides, sides[1:] + sides[:1]):
        if a == b or is_fold(a, b, c):
            return False
    return not has_meeting(sides)


def turning(polygon):
    """Return 1 if the corners of a simple polygon go counter-clockwise, and otherwise -1."""
    return 1 if double_area(polygon) > 0 else -1


def double_area(polygon):
    """Return twice the area in square units of angle, positive if the corners go counter-clockwise."""
    return sum([a[1] * b[0] - b[1] * a[0] for a, b in sides_of(polygon)])


def where(polygon, point):
    """Return whether a point is inside or outside of a simple polygon, or on its edge."""
    is_inside = False
    for a, b in sides_of(polygon):
        side = side_of(a, b, point)
        if side == 0 and is_in_box(a, b, point):
            return "edge"
        # Each side that passes the height of the point to the east of it is crossed by the way out.
        if (a[0] > point[0]) != (b[0] > point[0]) and (side > 0) == (b[0] > a[0]):
            is_inside = not is_inside
    return "inside" if is_inside else "outside"


def halves(polygon, i, k):
    """Return the two polygons into which the line from the corner i to the corner k divides a polygon."""
    size = len(polygon)
    if i < 0 or k < 0 or i >= size or k >= size:
        raise NoHalves("there is no such corner")
    if (i - k) % size in (0, 1, size - 1):
        raise NoHalves("the corners are equal or neighbors")
    return part_between(polygon, i, k), part_between(polygon, k, i)


def hull_of(points):
    """Return the corners of the least convex polygon that contains all points."""
    places = sorted(set([(point[1], point[0]) for point in points]))
    ordered = [(lat, lon) for lon, lat in places]
    corners = chain_of(ordered) + chain_of(ordered[::-1])
    if len(corners) < 3:
        raise NoHalves("the points are all on one line")
    return corners


def sides_of(polygon):
    """Return the list of the sides, as pairs of a corner and the next one."""
    return list(zip(polygon, polygon[1:] + polygon[:1]))


def side_of(a, b, c):
    """Return a number that is positive if c lies to the left of the way from a to b, and 0 on its line."""
    return (b[1] - a[1]) * (c[0] - a[0]) - (b[0] - a[0]) * (c[1] - a[1])


def is_in_box(a, b, c):
    """Return True if a point is between the parallels and the meridians of two others."""
    return min(a[0], b[0]) <= c[0] <= max(a[0], b[0]) and min(a[1], b[1]) <= c[1] <= max(a[1], b[1])


def is_fold(a, b, c):
    """Return True if the way from b to c begins as the way back to a does."""
    back = (a[0] - b[0]) * (c[0] - b[0]) + (a[1] - b[1]) * (c[1] - b[1])
    return side_of(a, b, c) == 0 and back > 0


def has_meeting(sides):
    """Return True if two sides that are no neighbors have a place in common."""
    # From west to east, a side is compared only with those that begin before it ends.
    ordered = sorted([(min(a[1], b[1]), place) for place, (a, b) in enumerate(sides)])
    for rank, (_, place) in enumerate(ordered):
        a, b = sides[place]
        east = max(a[1], b[1])
        for behind in range(rank + 1, len(ordered)):
            west, other = ordered[behind]
            if west > east:
                break
            if (place - other) % len(sides) not in (1, len(sides) - 1) and do_meet(a, b, sides[other]):
                return True
    return False


def do_meet(a, b, other):
    """Return True if the side from a to b and another one, which overlap in longitude, have a place in common."""
    c, d = other
    if max(a[0], b[0]) < min(c[0], d[0]) or max(c[0], d[0]) < min(a[0], b[0]):
        return False
    return are_parted(a, b, c, d) and are_parted(c, d, a, b)


def are_parted(a, b, c, d):
    """Return True if c and d are not both on the same side of the line through a and b."""
    first = side_of(a, b, c)
    second = side_of(a, b, d)
    return not (first > 0 and second > 0) and not (first < 0 and second < 0)


def part_between(polygon, i, k):
    """Return the corners from one to another, going around."""
    if i <= k:
        return polygon[i:k + 1]
    return polygon[i:] + polygon[:k + 1]


def chain_of(points):
    """Return the corners on the right side of the way through points in order, without the last one."""
    corners = []
    for point in points:
        while len(corners) > 1 and side_of(corners[-2], corners[-1], point) <= 0:
            corners.pop()
        corners.append(point)
    return corners[:-1]
