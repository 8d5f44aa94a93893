"""portolan.journeys: points 13.1 to 13.5."""

import functools
import itertools
import random
import time
import unittest
from decimal import Decimal

from portolan import formulas as f
from portolan.ellipsoids import WGS84
from portolan.errors import AtPole
from portolan.errors import NoBearing
from portolan.errors import Undecided
from portolan.errors import Undefined
from portolan.journeys import best_order
from portolan.journeys import course_angle
from portolan.journeys import course_length
from portolan.journeys import is_shorter
from portolan.journeys import journey_length
from portolan.journeys import journey_on
from portolan.journeys import within
from portolan.points import antipode
from portolan.points import radians
from portolan.projections import forward
from portolan.sphere import distance
from portolan.values import enclose

from tests import decimals
from tests import globe
from tests import maps
from tests.checks import check_value
from tests.maps import D
from tests.maps import LAT
from tests.maps import LON

NORTH, SOUTH = (LAT, 0), (-LAT, 0)
ELLIPSOIDS = [WGS84, (1, 0, 1), (6371000, 0, 7), (1000, 1, 10), (10 ** 20, 1, 300)]
JOURNEYS = [
    [(0, 0), (0, 10 * D)], [(0, 0), (0, 0)], [(0, 0), (0, 1)], [(33 * D, 7), (33 * D, 7), (33 * D + 1, 7)],
    [NORTH, (LAT, 77)], [NORTH, (LAT, 77), (LAT, -LON), (0, 5)], [(-LAT, 5), (-LAT, 6), (LAT, 5)], [(5, 5), (-5, 5 - LON)],
    [(45 * D, 10 * D), (-45 * D, -170 * D), (45 * D, 10 * D)], [NORTH, SOUTH], [(LAT - 1, 5), (LAT - 1, 6), (LAT, 0)],
    [(10 * D, 20 * D), (-30 * D, 170 * D), (80 * D, -100 * D), (3, 4)], [(40 * D, 7), (-40 * D, 7), (40 * D, -7)],
    [(0, -LON), (0, LON - 1), (1, -LON)],
]
TWO_ROOT = f.applied("root", f.number(2, 1))
# Its value is 0, but that is not known exactly.
NOTHING = f.minus(TWO_ROOT, TWO_ROOT)
NONSENSE = f.over(f.number(1, 1), f.number(0, 1))


def same(p, q):
    return p == q or (abs(p[0]) == LAT and p[0] == q[0])


@functools.lru_cache(None)
def length_value(p, q):
    if same(p, q):
        return Decimal(0)
    return globe.angle_between(globe.vector(p), globe.vector(q))


def sum_of(stops):
    return sum((length_value(*sorted(pair)) for pair in zip(stops, stops[1:])), Decimal(0))


def place_on(ellipsoid, point):
    """A place on an ellipsoid, from its two half axes."""
    a, p, q = ellipsoid
    b = a * decimals.exactly(q - p, q)
    sine, cosine = globe.sin(point[0]), globe.cos(point[0])
    length = (a * a * cosine * cosine + b * b * sine * sine).sqrt()
    across = a * a * cosine / length
    return across * globe.cos(point[1]), across * globe.sin(point[1]), b * b * sine / length


def straight_sum(ellipsoid, stops):
    total = Decimal(0)
    for p, q in zip(stops, stops[1:]):
        if not same(p, q):
            total += globe.length([x - y for x, y in zip(place_on(ellipsoid, p), place_on(ellipsoid, q))])
    return total


def random_stops(seed, many):
    chance = random.Random(seed)
    return [maps.random_points(chance.random(), chance.randint(2, 4)) for _ in range(many)]


class Lengths(unittest.TestCase):
    """Point 13.1."""

    def test_on_the_sphere(self):
        for stops in JOURNEYS + random_stops(1, 20):
            with self.subTest(stops=stops):
                check_value(self, journey_length(stops), sum_of(stops), (8, 33, 60), True)
                check_value(self, journey_length(stops[::-1]), sum_of(stops), (8, 33, 60))

    def test_on_ellipsoids(self):
        for ellipsoid in ELLIPSOIDS:
            for stops in JOURNEYS + random_stops(2, 5):
                with self.subTest(ellipsoid=ellipsoid, stops=stops):
                    value = straight_sum(ellipsoid, stops)
                    check_value(self, journey_on(ellipsoid, stops), value, (8, 33, 60), True)
                    check_value(self, journey_on(ellipsoid, stops[::-1]), value, (8, 33, 60))

    def test_all_bits(self):
        stops = [(10 * D, 20 * D), (-30 * D, 170 * D), (80 * D, -100 * D)]
        check_value(self, journey_length(stops), sum_of(stops), range(8, 61))
        check_value(self, journey_on(WGS84, stops), straight_sum(WGS84, stops), range(8, 61))

    def test_same_places(self):
        for stops in ([(3, 4)] * 3, [NORTH, (LAT, 5)], [(-LAT, 7), SOUTH, (-LAT, -LON)]):
            self.assertEqual(enclose(journey_length(stops), 160), (0, 0))
            for ellipsoid in ELLIPSOIDS:
                self.assertEqual(enclose(journey_on(ellipsoid, stops), 160), (0, 0))

    def test_arguments_stay(self):
        stops = [(1, 2), (3, 4), (5, 6)]
        journey_length(stops)
        journey_on(WGS84, stops)
        self.assertEqual(stops, [(1, 2), (3, 4), (5, 6)])

    def test_time(self):
        start = time.monotonic()
        for formula in (journey_length(JOURNEYS[11] * 3), journey_on(WGS84, JOURNEYS[11] * 3), journey_on(WGS84, JOURNEYS[10])):
            enclose(formula, 160)
        self.assertLess(time.monotonic() - start, 1)


PAIRS = [
    ((0, 0), (10 * D, 20 * D)), ((0, 0), (10 * D, -20 * D)), ((0, 0), (-10 * D, 20 * D)), ((0, 0), (-10 * D, -20 * D)),
    ((50 * D, 7), (50 * D, 80 * D)), ((50 * D, 80 * D), (50 * D, 7)), ((-33 * D, 5), (20 * D, 5)), ((20 * D, 5), (-33 * D, 5)),
    ((0, 0), (0, 1)), ((0, 0), (0, -1)), ((0, 0), (1, 0)), ((1, 0), (0, 0)), ((5, 5), (6, 6)), ((5, 5), (4, 6)),
    ((77 * D, 179 * D), (70 * D, -179 * D)), ((70 * D, -179 * D), (77 * D, 179 * D)), ((10 * D, 179 * D), (10 * D, -179 * D)),
    ((5, -LON), (7, LON - 1)), ((0, 0), (5, -LON)), ((5, -LON), (0, 0)), ((30 * D, -LON), (30 * D, 0)),
    ((LAT - 1, 5), (1 - LAT, 6)), ((LAT - 1, 5), (LAT - 1, 6)), ((1 - LAT, 0), (LAT - 1, -LON)), ((40 * D, 0), (40 * D + 1, LAT)),
    ((40 * D + 1, 0), (40 * D, -LAT)), ((20 * D, 0), (-20 * D, 5)), ((LAT - 1, 0), (LAT - 2, LON - 1)),
]


class Courses(unittest.TestCase):
    """Point 13.2."""

    def values(self, p, q):
        """The angle and the length of the steady course."""
        d = globe.rad(globe.turned(q[1] - p[1]))
        rise = globe.artanh(globe.sin(q[0])) - globe.artanh(globe.sin(p[0])) if p[0] != q[0] else Decimal(0)
        angle = globe.atan2(d, rise)
        if rise == 0:
            return angle, abs(d) * globe.cos(p[0])
        return angle, abs(globe.rad(q[0] - p[0]) / decimals.cosine(angle))

    def check(self, p, q, bits=(8, 33, 60)):
        with self.subTest(p=p, q=q):
            angle, length = self.values(p, q)
            self.assertTrue(-decimals.pi() < angle <= decimals.pi())
            check_value(self, course_angle(p, q), angle, bits, True)
            check_value(self, course_length(p, q), length, bits, True)
            check_value(self, course_length(q, p), length, bits)
            # It is never shorter than the distance.
            self.assertGreaterEqual(enclose(course_length(p, q), 100)[1], enclose(distance(p, q), 100)[0])

    def test_pairs(self):
        for p, q in PAIRS:
            self.check(p, q)
        self.check((12 * D, 34 * D), (-5 * D, 150 * D), range(8, 61))

    def test_by_chance(self):
        points = maps.random_points(41, 80)
        for p, q in zip(points[::2], points[1::2]):
            self.check(p, q, (8, 60, 160))

    def test_straight_ones(self):
        pi = decimals.pi()
        for p, q, value in (((0, 0), (5, 0), 0), ((5, 7), (-9, 7), pi), ((5, 7), (5, 9), pi / 2), ((5, 9), (5, 7), -pi / 2),
                            ((5, LON - 1), (5, -LON), pi / 2), ((5, -LON), (5, LON - 1), -pi / 2), ((5, -LON), (7, -LON), 0),
                            ((5, 0), (5, -LON), -pi / 2), ((5, -LON), (5, 0), -pi / 2)):
            check_value(self, course_angle(p, q), Decimal(value), (8, 60, 160), True)
        check_value(self, course_length((60 * D, 0), (60 * D, -LON)), pi / 2, (8, 60, 160))
        check_value(self, course_length((5, 7), (90 * D - 5, 7)), globe.rad(LAT - 10), (8, 60, 160))

    def test_quarters(self):
        quarter = decimals.pi() / 2
        for (p, q), least in zip(PAIRS, (0, -quarter, quarter, -2 * quarter)):
            value = self.values(p, q)[0]
            self.assertTrue(least < value < least + quarter)
            low, high = enclose(course_angle(p, q), 20)
            self.assertTrue(least * 2 ** 20 < low and high < (least + quarter) * 2 ** 20)

    def test_on_the_map(self):
        """On the map of Mercator the course is a straight line in this direction."""
        for p, q in PAIRS[:8]:
            (x0, y0), (x1, y1) = [forward(("mercator", 0, 0, 0, 0), point) for point in (p, q)]
            angle = course_angle(p, q)
            across = f.times(f.minus(x1, x0), f.applied("cosine", angle))
            low, high = enclose(f.minus(across, f.times(f.minus(y1, y0), f.applied("sine", angle))), 60)
            self.assertTrue(low <= 0 <= high)

    def test_equal_points(self):
        for p in ((0, 0), (33 * D, -LON), (1 - LAT, 7)):
            with self.assertRaises(NoBearing):
                course_angle(p, p)
            self.assertEqual(enclose(course_length(p, p), 160), (0, 0))

    def test_poles(self):
        for pole in (NORTH, SOUTH, (LAT, 77), (-LAT, -LON)):
            for p, q in ((pole, (0, 0)), ((0, 0), pole), (pole, pole), (pole, (pole[0], 5)), (pole, (-pole[0], 5)),
                         (pole, antipode(pole))):
                for function in (course_angle, course_length):
                    with self.assertRaises(AtPole):
                        function(p, q)


class Shorter(unittest.TestCase):
    """Point 13.3."""

    def check(self, less, greater):
        self.assertIs(is_shorter(less, greater), True)
        self.assertIs(is_shorter(greater, less), False)

    def test_both_ways(self):
        self.check(f.number(3, 1), f.pi_formula())
        self.check(f.pi_formula(), f.number(22, 7))
        self.check(f.number(-1, 2), f.number(-1, 3))
        self.check(TWO_ROOT, f.number(3, 2))
        self.check(distance((0, 0), (0, 5)), distance((0, 0), (0, 6)))
        self.check(f.applied("sine", f.number(1, 1)), f.number(1, 1))

    def test_near_values(self):
        for places in (10, 100, 500):
            tiny = f.number(1, 10 ** places)
            for formula in (f.pi_formula(), TWO_ROOT, f.number(5, 7), distance((1, 2), (3, 4))):
                self.check(formula, f.plus(formula, tiny))
                self.check(f.minus(formula, tiny), formula)

    def test_exact_numbers(self):
        for g, h in ((f.number(2, 4), f.number(1, 2)), (f.number(0, 1), f.number(0, 7)), (f.number(3, 1), f.number(3, 1)),
                     (f.plus(f.number(1, 3), f.number(1, 6)), f.number(1, 2)), (f.number(-5, 1), f.number(-10, 2))):
            self.assertIs(is_shorter(g, h), False)
            self.assertIs(is_shorter(h, g), False)

    def test_long_exact_numbers(self):
        for p, q in ((1, 3 ** 5000), (3 ** 5000, 2 ** 7000 + 1), (-7 ** 3000, 1)):
            self.assertIs(is_shorter(f.number(p, q), f.number(p, q)), False)
            self.assertIs(is_shorter(f.number(2 * p, 2 * q), f.number(p, q)), False)
            self.assertIs(is_shorter(f.number(p, q), f.number(2 * p, 2 * q)), False)
            self.check(f.number(p, q), f.number(2 * p + 1, 2 * q))

    def test_undecided(self):
        for g, h in ((f.pi_formula(), f.pi_formula()), (TWO_ROOT, TWO_ROOT), (NOTHING, f.number(0, 1)), (f.number(0, 1), NOTHING),
                     (f.number(1, 1), f.times(TWO_ROOT, f.over(f.number(1, 1), TWO_ROOT))),
                     (f.pi_formula(), f.plus(f.pi_formula(), f.number(1, 10 ** 700)))):
            with self.assertRaises(Undecided):
                is_shorter(g, h)

    def test_undefined(self):
        unused = (*NONSENSE, ("number", 5, 1))
        for g, h in ((NONSENSE, f.number(5, 1)), (f.number(5, 1), NONSENSE), (unused, f.number(5, 1)),
                     (f.number(5, 1), unused), (unused, unused), (f.applied("log", f.number(-1, 1)), f.pi_formula())):
            with self.assertRaises(Undefined):
                is_shorter(g, h)


class Orders(unittest.TestCase):
    """Point 13.4."""

    def check(self, start, stops):
        given = list(stops)
        found = best_order(start, stops)
        self.assertIsInstance(found, list)
        self.assertEqual(stops, given)
        self.assertEqual(sorted(found), sorted(stops))
        tiny = Decimal(10) ** -200
        shortest = sum_of([start] + found)
        for order in set(itertools.permutations(stops)):
            length = sum_of([start, *order])
            self.assertGreaterEqual(length, shortest - tiny)
            if self.pairs([start, *order]) == self.pairs([start] + found):
                self.assertGreaterEqual(list(order), found)
            else:
                self.assertGreater(length, shortest + tiny)
        chance = random.Random(len(stops))
        for _ in range(3):
            mixed = list(stops)
            chance.shuffle(mixed)
            self.assertEqual(best_order(start, mixed), found)
        return found

    def pairs(self, stops):
        return sorted(sorted(pair) for pair in zip(stops, stops[1:]))

    def test_few(self):
        self.assertEqual(self.check((5, 5), []), [])
        self.assertEqual(self.check((5, 5), [(7, 7)]), [(7, 7)])
        self.assertEqual(self.check((5, 5), [(5, 5)]), [(5, 5)])
        self.assertEqual(self.check((0, 0), [(0, 30), (0, 10), (0, 20)]), [(0, 10), (0, 20), (0, 30)])
        self.assertEqual(self.check((0, 0), [(0, 30), (0, -10)]), [(0, -10), (0, 30)])

    def test_by_chance(self):
        for many in range(7):
            for seed in range(3):
                points = maps.random_points(100 * many + seed, many + 1)
                self.check(points[0], points[1:])

    def test_near_ones(self):
        chance = random.Random(6)
        for many in (3, 4, 5, 6):
            points = [(40 * D + chance.randint(-999, 999), 7 * D + chance.randint(-999, 999)) for _ in range(many + 1)]
            self.check(points[0], points[1:])

    def test_one_line(self):
        self.assertEqual(self.check((0, 0), [(0, k * D) for k in (6, 2, 5, 1, 4, 3)]), [(0, k * D) for k in range(1, 7)])
        self.assertEqual(self.check((3, 7), [(k * D, 7) for k in (40, -1, 8)]), [(-D, 7), (8 * D, 7), (40 * D, 7)])

    def test_repeated_stops(self):
        a, b, c = (10 * D, 0), (20 * D, 50 * D), (-5 * D, 9 * D)
        self.assertEqual(self.check((0, 0), [a, a, a]), [a, a, a])
        self.assertEqual(self.check((0, 0), [b, a, b, a]), [a, a, b, b])
        self.check((0, 0), [a, b, a, c, b, c])
        self.check((0, 0), [a, a, b, b, c, c])

    def test_stops_equal_to_the_start(self):
        start, a, b = (0, 0), (10 * D, 3), (10 * D, 50 * D)
        self.assertEqual(self.check(start, [a, start]), [start, a])
        self.check(start, [start, a, start, b])
        self.assertEqual(self.check(start, [start] * 6), [start] * 6)

    def test_same_set_of_distances(self):
        """With equal points, other orders may have the same pairs of neighbors: the least list is told."""
        start = (D, D)
        for stops in ([start, (5 * D, 9), (2 * D, 70 * D)], [(7, 7), (7, 7), start], [start, (3, 3), start, (9 * D, 5)]):
            self.check(start, stops)

    def test_least_list(self):
        """Around two equal stops a ring may be gone through in both directions."""
        found = []
        for seed in range(40):
            chance = random.Random(seed)
            ring = [(chance.randint(-9, 9) * D, chance.randint(-9, 9) * D) for _ in range(3)]
            start = (chance.randint(-80, 80) * D, chance.randint(60, 170) * D)
            stops = [ring[0], ring[0], *ring]
            try:
                found.append(self.check(start, stops))
            except Undecided:
                pass
        self.assertGreater(len(found), 20)

    def test_poles(self):
        self.check((10 * D, 0), [NORTH, (80 * D, 9)])
        self.assertEqual(best_order(NORTH, [(LAT, 7), (LAT, 5)]), [(LAT, 5), (LAT, 7)])
        self.assertEqual(best_order(NORTH, [(0, 0), (LAT, 5)]), [(LAT, 5), (0, 0)])

    def test_undecided(self):
        for start, stops in (((0, 0), [(0, 5), (0, -5)]), ((0, 0), [(D, 0), (-D, 0)]), ((0, 0), [(D, 7), (D, -7)]),
                             ((0, 0), [(0, D), (0, -D), (0, 2 * D), (0, -2 * D)]), ((3, 3), [NORTH, (LAT, 5)]),
                             (NORTH, [(80 * D, 0), (80 * D, -LON)]), ((0, 0), [(30 * D, 5), (-30 * D, 5), (0, LAT), (5, 5)])):
            if len(stops) < 4:
                with self.assertRaises(Undecided):
                    best_order(start, stops)
            else:
                self.check_or_undecided(start, stops)

    def check_or_undecided(self, start, stops):
        """Undecided only if another set of distances has the same sum."""
        try:
            self.check(start, stops)
        except Undecided:
            sums = {}
            for order in itertools.permutations(stops):
                sums[str(self.pairs([start, *order]))] = round(sum_of([start, *order]), 200)
            ordered = sorted(sums.values())
            self.assertEqual(ordered[0], ordered[1])

    def test_longer_ones_alike(self):
        """Longer journeys that are as long as each other do not matter here."""
        start = (0, 0)
        stops = [(0, 10 * D), (0, 30 * D), (0, 20 * D)]
        sums = sorted(round(sum_of([start, *order]), 100) for order in itertools.permutations(stops))
        self.assertLess(len(set(sums)), len(sums))
        self.assertEqual(best_order(start, stops), [(0, 10 * D), (0, 20 * D), (0, 30 * D)])

    def test_new_lists(self):
        stops = [(0, 1)]
        best_order((0, 0), stops).clear()
        self.assertEqual(best_order((0, 0), stops), [(0, 1)])

    def test_time(self):
        points = maps.random_points(77, 7)
        start = time.monotonic()
        best_order(points[0], points[1:])
        with self.assertRaises(Undecided):
            best_order((0, 0), [(50000, 5), (50000, -5), (D, 7), (D, -7), (3 * D, 9), (3 * D, -9)])
        self.assertLess(time.monotonic() - start, 2)


class Within(unittest.TestCase):
    """Point 13.5."""

    def test_both_sides(self):
        center = (20 * D, 30 * D)
        points = maps.random_points(15, 30) + [antipode(center), center, NORTH, (LAT, 9), SOUTH, (-LAT, 7), NORTH, center]
        for radius in (f.number(1, 1), f.number(3, 1), f.number(4, 1), radians(70 * D + 1), TWO_ROOT, f.number(1, 10 ** 9)):
            value = decimals.value_of(radius)
            wanted = [point for point in points if length_value(*sorted((center, point))) <= value]
            given = list(points)
            found = within(center, radius, points)
            self.assertIsInstance(found, list)
            self.assertEqual(found, wanted)
            self.assertEqual(points, given)
            self.assertEqual(within(center, radius, points[::-1]), wanted[::-1])
            self.assertEqual(within(center, radius, points * 2), wanted * 2)

    def test_near_the_circle(self):
        points = [(0, 10 * D - 1), (0, 10 * D + 1), (0, -10 * D + 1), (0, -10 * D - 1), (10 * D - 1, 0), (10 * D + 1, 0)]
        self.assertEqual(within((0, 0), radians(10 * D), points), points[::2])
        for point in ((0, 10 * D), (0, -10 * D), (10 * D, 0)):
            with self.assertRaises(Undecided):
                within((0, 0), radians(10 * D), [(0, 5), point])
            tiny = f.number(1, 10 ** 300)
            self.assertEqual(within((0, 0), f.plus(radians(10 * D), tiny), [(0, 5), point]), [(0, 5), point])
            self.assertEqual(within((0, 0), f.minus(radians(10 * D), tiny), [(0, 5), point]), [(0, 5)])

    def test_radius_of_0(self):
        points = [(0, 0), (0, 1), (0, 0), (-1, 0), (0, -LON)]
        for radius in (f.number(0, 1), f.minus(f.number(1, 3), f.number(2, 6)), f.number(0, 3 ** 7000)):
            self.assertEqual(within((0, 0), radius, points), [(0, 0), (0, 0)])
            self.assertEqual(within((0, 1), radius, points), [(0, 1)])
            poles = [(LAT, 7), NORTH, (-LAT, 7), (LAT - 1, 7), (LAT, -LON)]
            self.assertEqual(within(NORTH, radius, poles), [(LAT, 7), NORTH, (LAT, -LON)])
        with self.assertRaises(Undecided):
            within((0, 0), NOTHING, [(0, 0)])
        self.assertEqual(within((0, 0), NOTHING, [(0, 1)]), [])

    def test_negative_radius(self):
        for radius in (f.number(-1, 10 ** 50), f.minus(f.number(0, 1), f.pi_formula())):
            self.assertEqual(within((0, 0), radius, [(0, 0), (0, 1), NORTH]), [])

    def test_opposite_points(self):
        for center in ((0, 0), (33 * D, -7), NORTH):
            point = antipode(center)
            self.assertEqual(within(center, f.number(4, 1), [point]), [point])
            self.assertEqual(within(center, f.number(3, 1), [point]), [])
            with self.assertRaises(Undecided):
                within(center, f.pi_formula(), [point])

    def test_undefined(self):
        with self.assertRaises(Undefined):
            within((0, 0), NONSENSE, [(0, 1)])
        self.assertEqual(within((0, 0), f.pi_formula(), []), [])

    def test_new_lists(self):
        points = [(0, 1), (0, 2)]
        found = within((0, 0), f.number(1, 1), points)
        found.clear()
        self.assertEqual(points, [(0, 1), (0, 2)])
