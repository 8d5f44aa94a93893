"""portolan.polygonareas: points 12.4 and 12.7."""

import random
import time
import unittest
from decimal import Decimal

from portolan import formulas as f
from portolan.points import antipode
from portolan.polygonareas import map_polygon_area
from portolan.polygonareas import perimeter
from portolan.polygons import halves
from portolan.sphere import box_area
from portolan.values import enclose

from tests import decimals
from tests import globe
from tests import planes
from tests.checks import check_value
from tests.maps import D
from tests.maps import LAT
from tests.maps import LON

POLYGONS = [
    [(0, 0), (0, 10 * D), (10 * D, 0)], [(0, 0), (0, 1), (1, 0)], [(-5, 3), (-5, 4), (7, 4), (7, 3)],
    [(-80 * D, -170 * D), (-80 * D + 1, LON - 1), (LAT - 1, LON - 2), (3, -5), (LAT - 2, -LON)],
    [(10 * D, -LON), (20 * D, LON - 1), (30 * D, 0)], [(0, 0), (0, 60), (50, 60), (10, 50), (50, 40), (10, 30), (50, 0)],
] + planes.simple_polygons(21, 8, LAT - 1, LON - 1) + planes.simple_polygons(22, 4, 5, 5)


def area_value(polygon):
    """The area by the trapezia between the sides and the equator."""
    total = Decimal(0)
    for a, b in planes.sides(polygon):
        total -= globe.rad(b[1] - a[1]) * (globe.sin(a[0]) + globe.sin(b[0])) / 2
    return total


def length_value(polygon):
    return sum((globe.angle_between(globe.vector(a), globe.vector(b)) for a, b in planes.sides(polygon)), Decimal(0))


def is_nothing(formula, bits=60):
    low, high = enclose(formula, bits)
    return low <= 0 <= high and high - low <= 4


class Areas(unittest.TestCase):
    """Point 12.4."""

    def test_both_orders(self):
        for polygon in POLYGONS:
            value = area_value(polygon)
            with self.subTest(polygon=polygon):
                check_value(self, map_polygon_area(polygon), value, (8, 33, 60), True)
                check_value(self, map_polygon_area(polygon[::-1]), -value, (8, 33, 60))
                check_value(self, map_polygon_area(polygon[1:] + polygon[:1]), value, (8, 33, 60))

    def test_signs(self):
        for polygon in POLYGONS[:3]:
            self.assertGreater(enclose(map_polygon_area(polygon), 120)[0], 0)
            self.assertLess(enclose(map_polygon_area(polygon[::-1]), 120)[1], 0)

    def test_all_bits(self):
        check_value(self, map_polygon_area(POLYGONS[3]), area_value(POLYGONS[3]), range(8, 61))

    def test_boxes(self):
        for south, north, west, east in ((0, 10 * D, 5, 50 * D), (-33 * D, 20 * D, -LON, LON - 1), (7, 8, -1, 0)):
            box = [(south, west), (south, east), (north, east), (north, west)]
            self.assertTrue(is_nothing(f.minus(map_polygon_area(box), box_area(south, north, west, east))))

    def test_more_corners(self):
        """Corners on a side along a parallel, or along a meridian, do not matter."""
        chance = random.Random(5)
        for polygon in ([(10 * D, -50 * D), (10 * D, 70 * D), (50 * D, 60 * D)], [(-D, 0), (-D, 9), (70 * D, 9), (70 * D, 0)]):
            a, b = polygon[:2]
            for _ in range(5):
                between = (a[0], chance.randint(a[1] + 1, b[1] - 1))
                more = [a, between] + polygon[1:]
                self.assertTrue(is_nothing(f.minus(map_polygon_area(more), map_polygon_area(polygon))))
        box = [(0, 0), (0, 9 * D), (9 * D, 9 * D), (9 * D, 0)]
        more = box + [(5 * D, 0), (D, 0)]
        self.assertTrue(is_nothing(f.minus(map_polygon_area(more), map_polygon_area(box))))

    def test_halves(self):
        for polygon in POLYGONS:
            for i in range(len(polygon)):
                k = i + 2
                if len(polygon) > 3 and k < len(polygon) and k - i < len(polygon) - 1:
                    first, second = [map_polygon_area(part) for part in halves(polygon, i, k)]
                    whole = map_polygon_area(polygon)
                    self.assertTrue(is_nothing(f.minus(f.plus(first, second), whole)))

    def test_equator(self):
        self.assertEqual(enclose(map_polygon_area([(0, 0), (0, 5), (0, 9)]), 60), (0, 0))

    def test_arguments_stay(self):
        for polygon in POLYGONS:
            given = list(polygon)
            map_polygon_area(polygon)
            perimeter(polygon)
            self.assertEqual(polygon, given)


class Perimeters(unittest.TestCase):
    """Point 12.7."""

    def check(self, polygon, bits=(8, 33, 60)):
        value = length_value(polygon)
        with self.subTest(polygon=polygon):
            check_value(self, perimeter(polygon), value, bits, True)
            check_value(self, perimeter(polygon[2:] + polygon[:2]), value, bits)
            check_value(self, perimeter(polygon[::-1]), value, bits)

    def test_polygons(self):
        for polygon in POLYGONS:
            self.check(polygon)
        self.check(POLYGONS[4], range(8, 61))

    def test_equal_and_opposite_neighbors(self):
        p, q = (12 * D, 34 * D), (-50 * D, 99 * D)
        for polygon in ([p, p, q], [p, q, p], [p, p, p], [p, antipode(p), q], [p, q, antipode(p)], [p, antipode(p), p, q],
                        [(0, 0), (0, -LON), (0, 0), (5, 5)]):
            self.check(polygon)
        self.assertEqual(enclose(perimeter([p, p, p]), 60), (0, 0))
        check_value(self, perimeter([p, antipode(p), p]), 2 * decimals.pi())

    def test_time(self):
        polygon = planes.simple_polygons(33, 1, LAT - 1, LON - 1)[0] * 10
        start = time.monotonic()
        enclose(perimeter(polygon), 160)
        enclose(map_polygon_area(polygon), 160)
        self.assertLess(time.monotonic() - start, 1)
