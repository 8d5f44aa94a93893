"""portolan.polygons: points 12.1 to 12.3, 12.5 and 12.6."""

import itertools
import math
import random
import time
import unittest

from portolan.errors import NoHalves
from portolan.polygons import double_area
from portolan.polygons import halves
from portolan.polygons import hull_of
from portolan.polygons import is_simple
from portolan.polygons import turning
from portolan.polygons import where

from tests import planes
from tests.maps import D
from tests.maps import LAT
from tests.maps import LON

SQUARE = [(0, 0), (0, 10), (10, 10), (10, 0)]
ARROW = [(0, 0), (0, 10), (10, 10), (3, 5)]
COMB = [(0, 0), (0, 60), (50, 60), (10, 50), (50, 40), (10, 30), (50, 20), (10, 10), (50, 0)]
WIDE = [(-80 * D, -170 * D), (-80 * D + 1, LON - 1), (LAT - 1, LON - 2), (3, -5), (LAT - 2, -LON)]


def turned_around(polygon):
    """The same polygon from each other corner on, and in the opposite order."""
    for k in range(len(polygon)):
        turned = polygon[k:] + polygon[:k]
        yield turned
        yield turned[::-1]


class Simple(unittest.TestCase):
    """Point 12.1."""

    def check(self, polygon, wanted):
        """Also for the polygon as it is seen in mirrors."""
        for lat_sign, lon_sign in ((1, 1), (1, -1), (-1, 1), (-1, -1)):
            for swapped in (False, True):
                mirrored = [(lat_sign * lat, lon_sign * lon) for lat, lon in polygon]
                if swapped:
                    mirrored = [(lon, lat) for lat, lon in mirrored]
                for same in turned_around(mirrored):
                    with self.subTest(polygon=same):
                        self.assertIs(is_simple(same), wanted)
                        self.assertIs(planes.is_simple(same), wanted)

    def test_simple_ones(self):
        for polygon in (SQUARE, ARROW, COMB, WIDE, [(0, 0), (0, 1), (1, 0)], [(0, 0), (0, 5), (0, 10), (5, 5)],
                        [(0, 0), (0, 10), (0, 20), (10, 20), (20, 20), (20, 0)]):
            self.check(polygon, True)

    def test_crossing_sides(self):
        self.check([(0, 0), (10, 10), (0, 10), (10, 0)], False)
        self.check([(0, 0), (0, 10), (10, 5), (5, 0), (5, 20), (-3, 4)], False)
        self.check([(-80 * D, -LON), (80 * D, LON - 1), (-80 * D, LON - 1), (80 * D, -LON)], False)

    def test_touching_sides(self):
        # A corner in the middle of a side, and a corner on another corner.
        self.check([(0, 0), (0, 10), (10, 10), (0, 5), (10, 0)], False)
        self.check([(0, 0), (0, 10), (5, 5), (10, 10), (10, 0), (5, 5)], False)
        self.check([(0, 0), (0, 10), (10, 10), (1, 5), (10, 0)], True)
        # At the end of a side, seen from both sides, and beside it.
        self.check([(0, 0), (0, 10), (5, 10), (0, 11), (9, 20), (9, 0)], True)
        self.check([(0, 0), (0, 10), (5, 10), (0, 10), (9, 20), (9, 0)], False)

    def test_sides_on_each_other(self):
        self.check([(0, 0), (0, 10), (5, 10), (0, 8), (0, 2), (5, 0)], False)
        self.check([(0, 0), (0, 4), (5, 4), (5, 6), (0, 6), (0, 10), (20, 5)], True)
        self.check([(0, 0), (0, 4), (5, 4), (5, 6), (0, 3), (0, 10), (20, 5)], False)
        self.check([(0, 0), (10, 0), (10, 5), (8, 0), (2, 0), (5, -5)], False)

    def test_folds(self):
        self.check([(0, 0), (0, 10), (0, 5), (10, 5)], False)
        self.check([(0, 0), (0, 10), (0, -5), (10, 5)], False)
        self.check([(0, 0), (4, 4), (2, 2), (10, 0)], False)
        self.check([(0, 0), (0, 10), (0, 0), (10, 5)], False)
        for line in ([(0, 0), (0, 5), (0, 10)], [(0, 0), (1, 1), (2, 2)], [(0, 0), (7, 0), (3, 0), (5, 0)]):
            self.check(line, False)

    def test_equal_corners(self):
        self.check([(0, 0), (0, 0), (5, 5)], False)
        self.check([(0, 0), (5, 5), (0, 0)], False)
        self.check([(3, 3), (3, 3), (3, 3)], False)
        self.check([(0, 0), (0, 10), (0, 10), (10, 10)], False)
        self.check([(0, 0), (0, 10), (5, 5), (10, 10), (10, 0), (5, 5)], False)
        self.check([(0, 0), (0, 10), (10, 10), (0, 0), (10, 0), (10, -10)], False)

    def test_by_chance(self):
        chance = random.Random(1)
        seen = {True: 0, False: 0}
        for lat, lon in ((2, 2), (3, 3), (5, 4), (20, 20), (LAT - 1, LON - 1)):
            for _ in range(250):
                polygon = planes.random_polygon(chance, chance.randint(3, 8), lat, lon)
                wanted = planes.is_simple(polygon)
                seen[wanted] += 1
                self.assertIs(is_simple(polygon), wanted, polygon)
                self.assertIs(is_simple(polygon[::-1]), wanted)
                self.assertIs(is_simple(polygon[2:] + polygon[:2]), wanted)
        self.assertGreater(min(seen.values()), 200)

    def test_all_small_ones(self):
        grid = [(lat, lon) for lat in range(3) for lon in range(2)]
        for polygon in itertools.product(grid, repeat=4):
            self.assertIs(is_simple(list(polygon)), planes.is_simple(list(polygon)), polygon)
        for polygon in itertools.permutations(grid, 5):
            self.assertIs(is_simple(list(polygon)), planes.is_simple(list(polygon)), polygon)

    def test_time(self):
        star = [(int(8e8 * (1 + k % 2) / 2 * math.sin(k * math.pi / 400)), int(9e8 * math.cos(k * math.pi / 400)))
                for k in range(800)]
        start = time.monotonic()
        self.assertIs(is_simple(star), True)
        self.assertLess(time.monotonic() - start, 2)


class Areas(unittest.TestCase):
    """Point 12.2."""

    def test_both_orders(self):
        for polygon, area in ((SQUARE, 200), (ARROW, 80), ([(0, 0), (0, 10), (10, 0)], 100), ([(0, 0), (0, 1), (1, 0)], 1)):
            for same in turned_around(polygon):
                sign = 1 if planes.double_area(same) > 0 else -1
                self.assertEqual(double_area(same), sign * area)
                self.assertEqual(turning(same), sign)
        self.assertEqual(turning(SQUARE), 1)
        self.assertEqual(turning(SQUARE[::-1]), -1)

    def test_by_chance(self):
        for k, (lat, lon) in enumerate(((3, 3), (50, 70), (LAT - 1, LON - 1))):
            for polygon in planes.simple_polygons(k, 40, lat, lon):
                area = planes.double_area(polygon)
                self.assertEqual(double_area(polygon), area)
                self.assertEqual(double_area(polygon[::-1]), -area)
                self.assertEqual(turning(polygon), 1 if area > 0 else -1)
                self.assertEqual(turning(polygon[::-1]), -turning(polygon))
                self.assertEqual(double_area(polygon[1:] + polygon[:1]), area)
        self.assertEqual(double_area(WIDE), planes.double_area(WIDE))


class Where(unittest.TestCase):
    """Point 12.3."""

    def check(self, polygon, point, wanted):
        for same in turned_around(polygon):
            self.assertEqual(where(same, point), wanted, (same, point))

    def test_square(self):
        for lat in range(-1, 12):
            for lon in range(-1, 12):
                wanted = "inside"
                if min(lat, lon) < 0 or max(lat, lon) > 10:
                    wanted = "outside"
                elif min(lat, lon) == 0 or max(lat, lon) == 10:
                    wanted = "edge"
                self.check(SQUARE, (lat, lon), wanted)

    def test_not_convex(self):
        for polygon in (ARROW, COMB):
            for lat in range(-2, 54, 3):
                for lon in range(-5, 64, 3):
                    self.check(polygon, (lat, lon), planes.where(polygon, (lat, lon)))

    def test_height_of_corners(self):
        self.check(COMB, (50, -1), "outside")
        self.check(COMB, (10, 5), "inside")
        self.check(COMB, (10, 50), "edge")
        self.check(COMB, (10, 59), "inside")
        self.check(COMB, (50, 10), "outside")
        self.check(COMB, (0, -7), "outside")
        diamond = [(0, -5), (-5, 0), (0, 5), (5, 0)]
        for lon, wanted in ((-9, "outside"), (-5, "edge"), (0, "inside"), (4, "inside"), (5, "edge"), (6, "outside")):
            self.check(diamond, (0, lon), wanted)

    def test_far_away(self):
        for polygon in (SQUARE, ARROW, COMB):
            for point in ((LAT, 5), (-LAT, 5), (5, -LON), (5, LON - 1), (0, LON - 1), (10, -LON), (50, -LON), (LAT, LON - 1)):
                self.check(polygon, point, "outside")

    def test_wide(self):
        chance = random.Random(3)
        for polygon in planes.simple_polygons(5, 30, LAT - 1, LON - 1) + [WIDE]:
            for corner in polygon:
                self.check(polygon, corner, "edge")
            for _ in range(10):
                point = (chance.randint(-LAT, LAT), chance.randint(-LON, LON - 1))
                self.check(polygon, point, planes.where(polygon, point))
                same_height = (polygon[0][0], point[1])
                self.check(polygon, same_height, planes.where(polygon, same_height))

    def test_small_grids(self):
        for polygon in planes.simple_polygons(6, 60, 3, 3):
            for lat in range(-4, 5):
                for lon in range(-4, 5):
                    self.assertEqual(where(polygon, (lat, lon)), planes.where(polygon, (lat, lon)))


class Halves(unittest.TestCase):
    """Point 12.5."""

    def test_square(self):
        a, b, c, d = SQUARE
        self.assertEqual(halves(SQUARE, 0, 2), ([a, b, c], [c, d, a]))
        self.assertEqual(halves(SQUARE, 2, 0), ([c, d, a], [a, b, c]))
        self.assertEqual(halves(SQUARE, 1, 3), ([b, c, d], [d, a, b]))
        self.assertEqual(halves(SQUARE, 3, 1), ([d, a, b], [b, c, d]))

    def test_all_pairs(self):
        polygons = [SQUARE, ARROW, COMB, WIDE, SQUARE[:3]] + planes.simple_polygons(7, 10, 40, 40)
        for polygon in polygons:
            size = len(polygon)
            for i in range(-2, size + 2):
                for k in range(-2, size + 2):
                    with self.subTest(polygon=polygon, i=i, k=k):
                        self.check_pair(polygon, i, k)

    def check_pair(self, polygon, i, k):
        size = len(polygon)
        places = range(size)
        if i not in places or k not in places or i == k or abs(i - k) == 1 or {i, k} == {0, size - 1}:
            with self.assertRaises(NoHalves):
                halves(polygon, i, k)
            return
        before = list(polygon)
        found = halves(polygon, i, k)
        self.assertEqual(polygon, before)
        self.assertIsInstance(found, tuple)
        for part, first, last in zip(found, (i, k), (k, i)):
            self.assertIsInstance(part, list)
            many = (last - first) % size + 1
            self.assertEqual(part, [polygon[(first + step) % size] for step in range(many)])
        self.assertEqual(double_area(found[0]) + double_area(found[1]), double_area(polygon))

    def test_new_lists(self):
        polygon = list(SQUARE)
        first, second = halves(polygon, 0, 2)
        first.clear()
        second.append((5, 5))
        self.assertEqual(polygon, SQUARE)
        self.assertEqual(halves(polygon, 0, 2)[0], SQUARE[:3])


class Hull(unittest.TestCase):
    """Point 12.6."""

    def check(self, points):
        given = list(points)
        different = sorted(set(points))
        on_a_line = len(different) < 3 or all(
            planes.double_area([different[0], different[1], point]) == 0 for point in different[2:])
        with self.subTest(points=points):
            if on_a_line:
                with self.assertRaises(NoHalves):
                    hull_of(points)
            else:
                found = hull_of(points)
                self.assertIsInstance(found, list)
                self.check_hull(points, found)
            self.assertEqual(points, given)
        return on_a_line

    def check_hull(self, points, found):
        self.assertEqual(len(set(found)), len(found))
        self.assertTrue(set(found) <= set(points))
        self.assertEqual(found[0], min(points, key=lambda p: (p[1], p[0])))
        size = len(found)
        for k in range(size):
            a, b, c = found[k], found[(k + 1) % size], found[(k + 2) % size]
            self.assertGreater(planes.double_area([a, b, c]), 0)
            for point in points:
                self.assertGreaterEqual(planes.double_area([a, b, point]), 0)

    def test_hulls(self):
        self.assertEqual(hull_of([(5, 5)] + SQUARE + [(0, 5), (10, 5), (0, 0)]), SQUARE)
        self.assertEqual(hull_of([(10, 0), (0, 10), (0, 0)]), [(0, 0), (0, 10), (10, 0)])
        self.assertEqual(hull_of(COMB), [(0, 0), (0, 60), (50, 60), (50, 0)])
        self.assertEqual(hull_of([(LAT, 5), (-LAT, 5), (0, -LON), (0, LON - 1), (3, 3)]),
                         [(0, -LON), (-LAT, 5), (0, LON - 1), (LAT, 5)])

    def test_by_chance(self):
        chance = random.Random(9)
        lines = 0
        for reach in (1, 2, 3, 10, LAT):
            for _ in range(150):
                many = chance.randint(0, 14)
                lines += self.check([(chance.randint(-reach, reach), chance.randint(-reach, reach)) for _ in range(many)])
        self.assertGreater(lines, 50)

    def test_lines(self):
        for points in ([], [(0, 0)], [(0, 0), (0, 0), (0, 0)], [(0, 0), (5, 5)], [(0, 0), (5, 5), (0, 0), (5, 5)],
                       [(k, 2 * k) for k in range(14)], [(7, k) for k in range(5)], [(k, 7) for k in range(5)],
                       [(-LAT, -LON), (0, 0), (LAT, LON)]):
            self.assertTrue(self.check(points))
        for points in ([(k, 2 * k) for k in range(13)] + [(1, 1)], [(7, k) for k in range(5)] + [(8, 2)],
                       [(LAT, -LON), (0, 0), (-LAT, LON - 1)]):
            self.assertFalse(self.check(points))

    def test_new_lists(self):
        hull_of(SQUARE).clear()
        self.assertEqual(hull_of(SQUARE), SQUARE)
