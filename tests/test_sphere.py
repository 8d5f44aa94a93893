"""portolan.sphere: points 6.1 to 6.8."""

import itertools
import random
import time
import unittest

from portolan import formulas as f
from portolan.errors import InvalidPoint
from portolan.errors import NoBearing
from portolan.errors import NoMidpoint
from portolan.errors import Undecided
from portolan.points import antipode
from portolan.points import radians
from portolan.sphere import bearing
from portolan.sphere import box_area
from portolan.sphere import chord
from portolan.sphere import cross_track
from portolan.sphere import direction
from portolan.sphere import distance
from portolan.sphere import midpoint
from portolan.sphere import reached
from portolan.sphere import triangle_area
from portolan.values import enclose
from portolan.values import floor_of

from tests import decimals
from tests import globe
from tests import maps
from tests.checks import check_value
from tests.checks import check_values
from tests.maps import D
from tests.maps import LAT
from tests.maps import LON

NORTH, SOUTH = (LAT, 0), (-LAT, 0)
PLACES = [
    (0, 0), (0, 1), (1, 0), (0, LAT), (0, -LON), (450000000, 130000000), (450000000, -LON + 130000000),
    (-450000000, -LON + 130000000), (-123456789, 1234567890), (-123456790, 1234567890), (LAT - 1, 5), (LAT - 1, 6),
    NORTH, (LAT, 77), SOUTH, (-LAT, -LON), (30 * D, 179 * D), (-10 * D, -179 * D), (60 * D, 0), (-60 * D, -LON),
]


def same(p, q):
    return p == q or (abs(p[0]) == LAT and p[0] == q[0])


def opposite(p, q):
    return same(antipode(p), q)


class Ways(unittest.TestCase):
    """Points 6.1 and 6.2."""

    def test_direction(self):
        for p in PLACES + maps.random_points(1, 20):
            check_values(self, direction(p), globe.vector(p), with_paper=True)

    def pairs(self):
        pairs = list(itertools.product(PLACES, PLACES))
        chance = maps.random_points(2, 80)
        return pairs + list(zip(chance[::2], chance[1::2]))

    def test_distance_and_chord(self):
        for p, q in self.pairs():
            with self.subTest(p=p, q=q):
                v, w = globe.vector(p), globe.vector(q)
                check_value(self, distance(p, q), globe.angle_between(v, w), (8, 60, 160))
                straight = globe.length([a - b for a, b in zip(v, w)])
                check_value(self, chord(p, q), straight, (8, 60, 160))

    def test_same_place(self):
        for p, q in self.pairs():
            if same(p, q):
                for formula in (distance(p, q), chord(p, q)):
                    self.assertEqual(enclose(formula, 160), (0, 0))

    def test_opposite_places(self):
        for p, q in [(p, antipode(p)) for p in PLACES] + [(NORTH, SOUTH), ((LAT, 3), (-LAT, 9))]:
            for first, second in ((p, q), (q, p)):
                check_value(self, distance(first, second), decimals.pi(), with_paper=True)
                check_value(self, chord(first, second), decimals.Decimal(2), with_paper=True)

    def test_neighbors(self):
        """Points one unit apart, also far in the north, and points that are almost opposite."""
        for p in ((0, 0), (LAT - 1, 0), (777777777, -LON), (-12, LON - 1)):
            for dlat, dlon in ((0, 1), (-1, 0), (-1, -1)):
                q = (p[0] + dlat, globe.turned(p[1] + dlon))
                for other in (q, antipode(q)):
                    v, w = globe.vector(p), globe.vector(other)
                    value = globe.angle_between(v, w)
                    check_value(self, distance(p, other), value, (8, 90, 160), True)
                    check_value(self, chord(other, p), 2 * decimals.sine(value / 2), (8, 90, 160), True)


class Bearings(unittest.TestCase):
    """Points 6.3 and 6.4."""

    def value(self, p, q):
        """The bearing from the directions to the east and to the north in space."""
        east = (-globe.sin(p[1]), globe.cos(p[1]), decimals.Decimal(0))
        north = globe.cross(globe.vector(p), east)
        across = 0 if globe.turned(p[1] - q[1]) in (0, -LON) or abs(q[0]) == LAT else globe.dot(globe.vector(q), east)
        return globe.atan2(across, globe.dot(globe.vector(q), north))

    def test_bearing(self):
        chance = maps.random_points(3, 60)
        for p, q in list(itertools.product(PLACES, PLACES)) + list(zip(chance[::2], chance[1::2])):
            with self.subTest(p=p, q=q):
                if abs(p[0]) == LAT or same(p, q) or opposite(p, q):
                    with self.assertRaises(NoBearing):
                        bearing(p, q)
                else:
                    check_value(self, bearing(p, q), self.value(p, q), (8, 60, 160))

    def test_quarters(self):
        p = (10 * D, 20 * D)
        quarter = decimals.pi() / 2
        for q, least, greatest in (((20 * D, 30 * D), 0, quarter), ((-20 * D, 30 * D), quarter, 2 * quarter),
                                   ((-20 * D, 10 * D), -2 * quarter, -quarter), ((20 * D, 10 * D), -quarter, 0)):
            value = self.value(p, q)
            self.assertTrue(least < value < greatest)
            check_value(self, bearing(p, q), value, with_paper=True)

    def test_straight(self):
        pi = decimals.pi()
        for p, q, value in (
                ((0, 0), (1, 0), 0), ((5, 7), (-LAT + 3, 7), pi), ((0, 0), (0, 1), pi / 2), ((0, 0), (0, -1), -pi / 2),
                ((0, 0), (0, LON - 1), pi / 2), ((0, 0), (0, LAT), pi / 2), ((0, LON - 1), (0, -LON), pi / 2),
                ((0, -LON), (0, LON - 1), -pi / 2), ((30 * D, 5), (LAT, 77), 0), ((30 * D, 5), (-LAT, 77), pi),
                ((30 * D, 0), (-20 * D, -LON), 0), ((-30 * D, 0), (20 * D, -LON), pi), ((30 * D, 0), (0, LON - 1), None),
                ((40 * D, LAT), (50 * D, -LAT), 0)):
            if value is None:
                value = self.value(p, q)
            check_value(self, bearing(p, q), decimals.Decimal(value), with_paper=True)

    def test_no_bearing(self):
        for p, q in ((NORTH, (0, 0)), (SOUTH, (0, 0)), (NORTH, SOUTH), (NORTH, (LAT, 5)), ((3, 4), (3, 4)),
                     ((3, 4), (-3, 4 - LON)), ((0, -LON), (0, 0)), ((LAT, 7), (LAT, 7))):
            with self.assertRaises(NoBearing):
                bearing(p, q)

    def check_reached(self, p, azimuth, length, value, bits=(8, 60, 160)):
        """The place in space is p cos(l) and the direction on the ground times sin(l)."""
        with self.subTest(p=p, azimuth=azimuth, length=length):
            v = globe.vector(p)
            east = (-globe.sin(p[1]), globe.cos(p[1]), decimals.Decimal(0))
            north = globe.cross(v, east)
            ahead = [a * globe.sin(azimuth) + b * globe.cos(azimuth) for a, b in zip(east, north)]
            s, c = decimals.sine(value), decimals.cosine(value)
            x, y, z = [a * c + b * s for a, b in zip(v, ahead)]
            beside = -x * globe.sin(p[1]) + y * globe.cos(p[1])
            along = x * globe.cos(p[1]) + y * globe.sin(p[1])
            if azimuth % LON == 0:
                beside = 0
            lon = globe.rad(p[1]) + globe.atan2(beside, along)
            found = reached(p, azimuth, length)
            check_values(self, found, (decimals.arcsine(z), lon), bits)

    def test_reached(self):
        lengths = [f.number(0, 1), f.number(3, 1), f.number(1, 2), radians(60 * D), f.number(1, 10 ** 9),
                   f.applied("root", f.number(2, 1)), f.over(f.pi_formula(), f.number(2, 1))]
        for p in ((0, 0), (300000001, -50 * D), (-LAT + 1, LON - 1), (75 * D, -LON)):
            for azimuth in (0, LAT, -LAT, LON, -LON, 123456789, -1000000001, 2 * LON, 5 * LON + 7, -9 * LON, 1, LON - 1):
                for length in lengths:
                    if p == (0, 0) and azimuth % LON == 0 and ("pi",) in length and ("number", 2, 1) in length:
                        # This way ends at a pole.
                        continue
                    self.check_reached(p, azimuth, length, decimals.value_of(length), (8, 60))

    def test_reached_by_chance(self):
        chance = random.Random(4)
        for p in maps.random_points(5, 40):
            length = f.number(chance.randint(0, 3000), 1000)
            self.check_reached(p, chance.randint(-10 ** 10, 10 ** 10), length, decimals.value_of(length))

    def test_zero_that_is_not_known_exactly(self):
        two = f.applied("root", f.number(2, 1))
        for azimuth in (0, 33 * D, LON):
            check_values(self, reached((D, 2 * D), azimuth, f.minus(two, two)), (globe.rad(D), globe.rad(2 * D)))

    def test_reached_at_the_pole(self):
        with self.assertRaises(Undecided):
            reached((30 * D, 0), 0, radians(60 * D))

    def test_reached_and_bearing(self):
        """Who goes from p in the direction of q as far as it is, comes to q."""
        for p, q in (((10 * D, 20 * D), (30 * D, 170 * D)), ((-10 * D, 20 * D), (-30 * D, -100 * D))):
            angle = f.over(f.times(bearing(p, q), f.number(LON, 1)), f.pi_formula())
            lat, lon = reached(p, floor_of(angle), distance(p, q))
            for formula, wanted in ((lat, q[0]), (lon, q[1])):
                low, high = enclose(f.minus(formula, radians(wanted)), 60)
                self.assertLess(max(abs(low), abs(high)), 2 ** 34)

    def test_no_way_from_poles(self):
        for p in (NORTH, SOUTH, (LAT, 5), (-LAT, -LON)):
            with self.assertRaises(NoBearing):
                reached(p, 0, f.number(1, 1))


class Places(unittest.TestCase):
    """Points 6.5 and 6.6."""

    def test_midpoint(self):
        chance = maps.random_points(6, 40)
        for p, q in list(itertools.product(PLACES, PLACES)) + list(zip(chance[::2], chance[1::2])):
            with self.subTest(p=p, q=q):
                if opposite(p, q):
                    with self.assertRaises(NoMidpoint):
                        midpoint(p, q)
                else:
                    v = [a + b for a, b in zip(globe.vector(p), globe.vector(q))]
                    value = [a / globe.length(v) for a in v]
                    check_values(self, midpoint(p, q), value, (8, 60, 160))

    def test_midpoint_of_equal_points(self):
        for p in PLACES:
            check_values(self, midpoint(p, p), globe.vector(p), with_paper=True)
        check_values(self, midpoint(NORTH, (LAT, 99)), globe.vector(NORTH))

    def test_no_midpoint(self):
        for p, q in ((NORTH, (-LAT, 9)), ((0, 0), (0, -LON)), ((12, 34), (-12, 34 - LON))):
            with self.assertRaises(NoMidpoint):
                midpoint(p, q)

    def check_track(self, p, q, r, bits=(8, 60)):
        axis = globe.cross(globe.vector(p), globe.vector(q))
        height = globe.dot(globe.vector(r), axis) / globe.length(axis)
        value = decimals.pi() / 2 - globe.angle_between(axis, globe.vector(r))
        self.assertLess(abs(decimals.sine(value) - height), decimals.Decimal(10) ** -250)
        check_value(self, cross_track(p, q, r), value, bits, len(bits) == 3)
        return value

    def test_cross_track(self):
        points = PLACES[::4] + maps.random_points(7, 4)
        for p, q, r in itertools.product(points, points, points):
            with self.subTest(p=p, q=q, r=r):
                if same(p, q) or opposite(p, q):
                    with self.assertRaises(NoBearing):
                        cross_track(p, q, r)
                else:
                    self.check_track(p, q, r)

    def test_sides(self):
        p, q = (10 * D, 20 * D), (15 * D, 60 * D)
        for r, sign in (((70 * D, 30 * D), 1), ((-70 * D, 30 * D), -1), ((20 * D, 40 * D), 1), ((10 * D, 40 * D), -1)):
            value = self.check_track(p, q, r, (8, 160))
            self.assertGreater(value * sign, 0)
            check_value(self, cross_track(q, p, r), -value, (8, 160), True)

    def test_on_the_circle(self):
        for p, q, r in (((0, 0), (0, 5 * D), (0, 100 * D)), ((D, 7), (5 * D, 7), (-77 * D, 7)),
                        ((D, 7), (5 * D, 7), (-77 * D, 7 - LON)), ((3, 4), (5, 6), (3, 4)), ((3, 4), (5, 6), (5, 6)),
                        ((3, 4), (5, 6), (-5, 6 - LON))):
            check_value(self, cross_track(p, q, r), decimals.Decimal(0), (8, 60, 160), True)

    def test_at_the_axis(self):
        """The pole of a circle, and points beside it, are a right angle away."""
        for p, q in (((0, 10 * D), (0, 70 * D)), ((0, 10 * D), (0, -LAT)), ((0, 1), (0, 2))):
            for r in (NORTH, (LAT, 123), (LAT - 1, 5), (LAT - 12345678, 123456), (LAT - 15 * D, 0)):
                self.check_track(p, q, r, (8, 60, 160))
                self.check_track(q, p, r, (8, 60, 160))
        for p, q, r in (((20 * D, 0), (50 * D, 0), (0, LAT)), ((-20 * D, 7), (50 * D, 7 - LON), (0, 7 - LAT))):
            self.check_track(p, q, r, (8, 60, 160))
            self.check_track(q, p, r, (8, 60, 160))


class Areas(unittest.TestCase):
    """Points 6.7 and 6.8."""

    def check_triangle(self, p, q, r, bits=(8, 60)):
        with self.subTest(p=p, q=q, r=r):
            value = globe.solid_angle(p, q, r)
            for points in ((p, q, r), (q, r, p), (r, p, q)):
                check_value(self, triangle_area(*points), value, bits)
                check_value(self, triangle_area(*reversed(points)), -value, bits)
            return value

    def test_triangle_area(self):
        chance = maps.random_points(8, 60)
        for p, q, r in zip(chance[::3], chance[1::3], chance[2::3]):
            self.check_triangle(p, q, r, (8, 60, 160))

    def test_triangles(self):
        pi = decimals.pi()
        self.assertLess(abs(self.check_triangle((0, 0), (0, LAT), NORTH) - pi / 2), decimals.Decimal(10) ** -250)
        self.check_triangle(NORTH, (-D, 0), (-D, 90 * D))
        self.check_triangle((0, 0), (0, 1), (1, 0), (8, 60, 160))

    def test_great_triangles(self):
        """Triangles with more than a quarter of the sphere: 1 + p q + q r + r p is negative."""
        for lat in (0, D, -D, 1, -1, 18 * D):
            p, q, r = (lat, 0), (lat, 120 * D), (lat, -120 * D)
            v = [globe.vector(point) for point in (p, q, r)]
            below = 1 + globe.dot(v[0], v[1]) + globe.dot(v[1], v[2]) + globe.dot(v[2], v[0])
            self.assertLess(below, 0)
            if lat != 0:
                value = self.check_triangle(p, q, r, (8, 60, 160))
                self.assertEqual(value > 0, lat > 0)
                self.assertGreater(abs(value), decimals.pi())

    def test_around_a_great_circle(self):
        for points in (((0, 0), (0, 120 * D), (0, -120 * D)), ((50 * D, 0), (-80 * D, 0), (0, -LON))):
            with self.assertRaises(Undecided):
                triangle_area(*points)

    def test_flat_triangles(self):
        for p, q, r in (((0, 0), (0, 5), (0, 50)), ((D, 7), (50 * D, 7), (-D, 7)), ((5, 6), (5, 6), (7, 8)),
                        ((7, 8), (5, 6), (5, 6)), ((5, 6), (7, 8), (5, 6)), ((5, 6), (5, 6), (5, 6)),
                        (NORTH, (LAT, 5), (0, 0)), (NORTH, (LAT, 5), (LAT, 9)), ((0, 0), NORTH, (LAT, 100 * D))):
            check_value(self, triangle_area(p, q, r), decimals.Decimal(0), (8, 60, 160), True)

    def test_half_of_the_denominator(self):
        """Where 1 + p q + q r + r p is 0, the area is a quarter of the sphere."""
        pi = decimals.pi()
        check_value(self, triangle_area((0, 0), (0, LAT), (0, LON - 1)), decimals.Decimal(0), (8, 60))
        check_value(self, triangle_area(NORTH, (0, 0), (0, LON - 1)), pi - globe.rad(1), (8, 60, 160))

    def test_no_triangle(self):
        for p, q, r in (((0, 0), (0, -LON), (5, 5)), ((5, 5), (0, 0), (0, -LON)), ((0, -LON), (5, 5), (0, 0)),
                        (NORTH, (-LAT, 7), (0, 0)), (NORTH, NORTH, SOUTH)):
            with self.assertRaises(NoMidpoint):
                triangle_area(p, q, r)

    def test_box_area(self):
        for south, north, west, east in ((0, 0, 0, 0), (-LAT, LAT, 0, 2 * LON), (D, 33 * D, -7, 12345), (-5, 5, -LON, LON),
                                         (-LAT, -LAT + 1, 0, 1), (LAT, LAT, 0, 5), (0, D, 10 ** 12, 10 ** 12 + 1)):
            value = globe.rad(east - west) * (globe.sin(north) - globe.sin(south))
            check_value(self, box_area(south, north, west, east), value, (8, 60, 160), True)
        self.assertEqual(floor_of(box_area(-LAT, LAT, 0, 2 * LON)), 12)

    def test_parts_of_a_patch(self):
        south, middle, north = -20 * D, 123, 70 * D
        west, between, east = -LON, 5 * D, 100 * D
        parts = [(south, middle, west, between), (south, middle, between, east), (middle, north, west, between),
                 (middle, north, between, east)]
        total = f.number(0, 1)
        for part in parts:
            total = f.plus(total, box_area(*part))
        low, high = enclose(f.minus(total, box_area(south, north, west, east)), 160)
        self.assertTrue(low <= 0 <= high)

    def test_no_patch(self):
        for sides in ((1, 0, 0, 1), (0, LAT + 1, 0, 1), (-LAT - 1, 0, 0, 1), (LAT + 1, LAT + 2, 0, 1), (0, 1, 1, 0),
                      (0, 1, 0, 2 * LON + 1), (0, 1, -LON, LON + 1)):
            with self.assertRaises(InvalidPoint):
                box_area(*sides)

    def test_time(self):
        start = time.monotonic()
        enclose(triangle_area((D, 0), (D, 120 * D), (D, -120 * D)), 160)
        enclose(cross_track((0, 10 * D), (0, 70 * D), NORTH), 160)
        enclose(distance((LAT - 1, 5), (LAT - 1, 6)), 160)
        self.assertLess(time.monotonic() - start, 2)
