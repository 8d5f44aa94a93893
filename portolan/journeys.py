"""Journeys from stop to stop, steady courses, and the shortest order of stops."""

from itertools import permutations

from portolan.ellipsoids import position
from portolan.errors import AtPole
from portolan.errors import NoBearing
from portolan.exact import exact_values
from portolan.formulas import minus
from portolan.points import HALF_TURN
from portolan.points import is_pole
from portolan.points import radians
from portolan.points import same_place
from portolan.points import wrapped
from portolan.sphere import distance
from portolan.terms import ONE
from portolan.terms import difference
from portolan.terms import product
from portolan.terms import quotient
from portolan.terms import root
from portolan.terms import square
from portolan.terms import total
from portolan.terms import total_of
from portolan.trigonometry import cosine_of
from portolan.trigonometry import steep_angle
from portolan.trigonometry import stretched
from portolan.values import enclose
from portolan.values import sign_of

# Most journeys are told apart by distances with so many bits.
ROUGH_BITS = 64


def journey_length(stops):
    """Return a formula for the sum of the distances from stop to stop on the sphere."""
    return total_of([distance(p, q) for p, q in zip(stops, stops[1:])])


def journey_on(ellipsoid, stops):
    """Return a formula for the sum of the straight distances in space from stop to stop."""
    return total_of([straight_distance(ellipsoid, p, q) for p, q in zip(stops, stops[1:])])


def course_angle(p, q):
    """Return a formula for the angle of the steady course, from north, eastward positive."""
    demand_no_poles(p, q)
    if p == q:
        raise NoBearing("the points are equal")
    d = wrapped(q[1] - p[1])
    if d == 0:
        return radians(HALF_TURN if q[0] < p[0] else 0)
    return steep_angle(radians(d), rise(p, q), 1 if d > 0 else -1)


def course_length(p, q):
    """Return a formula for the length of the steady course."""
    demand_no_poles(p, q)
    d = wrapped(q[1] - p[1])
    if p[0] == q[0]:
        return product(radians(abs(d)), cosine_of(p[0]))
    slope = quotient(radians(d), rise(p, q))
    # 1 / cos(z) is the root of 1 + tan(z) tan(z).
    return product(radians(abs(q[0] - p[0])), root(total(ONE, square(slope))))


def is_shorter(f, g):
    """Return True if the value of a formula is certainly less than that of another one."""
    first = exact_values(f)[-1]
    second = exact_values(g)[-1]
    if first is None or second is None:
        return sign_of(minus(f, g)) < 0
    # Their difference may have too many digits to be known exactly. The signs see to it that all steps have values.
    sign_of(f)
    sign_of(g)
    return first[0] * second[1] < second[0] * first[1]


def best_order(start, stops):
    """Return the stops in an order in which the journey from the start is certainly not longer than in any other."""
    best = None
    for order in shortest_orders(start, orders_apart(start, stops)):
        if best is None or is_shorter(journey_length([start, *order]), journey_length([start, *best])):
            best = order
    return best


def within(center, radius, points):
    """Return the list of the points whose distance from the center is at most the value of a formula."""
    return [point for point in points if is_reached(center, radius, point)]


def is_reached(center, radius, point):
    """Return True if the distance of a point from the center is at most the radius."""
    if same_place(center, point):
        return sign_of(radius) >= 0
    return sign_of(minus(radius, distance(center, point))) >= 0


def straight_distance(ellipsoid, p, q):
    """Return a formula for the straight distance in space of two points of an ellipsoid."""
    first = position(ellipsoid, p, 0)
    second = position(ellipsoid, q, 0)
    # At the same place each difference is the number 0; at a pole no coordinate depends on the longitude.
    return root(total_of([square(difference(f, g)) for f, g in zip(first, second)]))


def demand_no_poles(p, q):
    """Raise AtPole if one of two points is a pole."""
    if is_pole(p) or is_pole(q):
        raise AtPole("no steady course leads to a pole in a finite number of turns")


def rise(p, q):
    """Return a formula for the difference of the heights of two points on the map of Mercator."""
    return difference(stretched(q[0]), stretched(p[0]))


def orders_apart(start, stops):
    """Return the list of the least orders with each set of distances, the least order first."""
    orders = {}
    for order in sorted(permutations(stops)):
        pairs = tuple(sorted(pairs_of([start, *order])))
        if pairs not in orders:
            orders[pairs] = list(order)
    return list(orders.values())


def pairs_of(stops):
    """Return the list of the pairs of neighboring stops, each with the lesser point first."""
    return [(min(p, q), max(p, q)) for p, q in zip(stops, stops[1:])]


def shortest_orders(start, orders):
    """Return those of some orders of the same stops that are not certainly longer than another one."""
    stops = [start, *orders[0]]
    rough = {(p, q): enclose(distance(p, q), ROUGH_BITS) for p in stops for q in stops if p <= q}
    lows = [sum([rough[pair][0] for pair in pairs_of([start, *order])]) for order in orders]
    highs = [sum([rough[pair][1] for pair in pairs_of([start, *order])]) for order in orders]
    limit = min(highs)
    return [order for order, low in zip(orders, lows) if low <= limit]
