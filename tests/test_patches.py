"""portolan.patches: points 10.3 to 10.5."""

import random
import time
import unittest
from decimal import Decimal

from portolan import formulas as f
from portolan.errors import InvalidPoint
from portolan.errors import NoPlace
from portolan.errors import NoScales
from portolan.patches import map_area
from portolan.patches import quarters
from portolan.patches import scale_bounds
from portolan.sphere import box_area
from portolan.values import enclose

from tests import decimals
from tests import globe
from tests import maps
from tests.checks import check_value
from tests.maps import D
from tests.maps import LAT
from tests.maps import LON

STRAIGHT = [projection for projection in maps.ALL if projection[0] in ("plate", "mercator", "lambert")]
OTHERS = [projection for projection in maps.ALL if projection[0] not in ("plate", "mercator", "lambert")]
PATCHES = [
    (10 * D, 20 * D, -30 * D, 40 * D), (-50 * D, -3, 100 * D, 100 * D + 1), (-20 * D, 70 * D, -LON, LON - 1),
    (0, 1, 0, 1), (-1, 0, -1, 0), (-1, 1, LON - 2, LON - 1), (LAT - 2, LAT - 1, -LON, -LON + 1),
    (1 - LAT, LAT - 1, 5, 77 * D), (0, 80 * D, 170 * D, 179 * D), (-80 * D, 0, -LON, -170 * D), (-33 * D, 33 * D, 0, LAT),
]
POLAR = [(0, LAT, 0, 1), (-LAT, 0, -5, 5 * D), (-LAT, LAT, -LON, LON - 1), (LAT - 1, LAT, 0, D), (-LAT, -LAT + 1, 0, 7)]
NO_PATCHES = [
    (0, 0, 0, 1), (1, 0, 0, 1), (0, 1, 0, 0), (0, 1, 1, 0), (20 * D, 10 * D, 0, D), (-LAT - 1, 0, 0, 1), (0, LAT + 1, 0, 1),
    (LAT, LAT + 5, 0, 1), (0, 1, -LON - 1, 0), (0, 1, 0, LON), (0, 1, LON, LON + 1), (0, 1, 170 * D, -170 * D),
    (-LAT, LAT, -LON, LON), (LAT, LAT, 0, 1), (LAT, -LAT, 0, 1), (LAT, LAT, 5, 5),
]


def random_patches(seed, many):
    chance = random.Random(seed)
    found = []
    while len(found) < many:
        south, north = sorted(chance.randint(1 - LAT, LAT - 1) for _ in range(2))
        west, east = sorted(chance.randint(-LON, LON - 1) for _ in range(2))
        if south < north and west < east:
            found.append((south, north, west, east))
    return found


def height(projection, lat):
    """The value y of a latitude."""
    if projection[0] == "plate":
        return globe.rad(lat)
    if projection[0] == "mercator":
        return globe.artanh(globe.sin(lat))
    return globe.sin(lat) / globe.cos(projection[3])


def area_value(projection, patch):
    south, north, west, east = patch
    width = globe.rad(east - west) * globe.cos(projection[3])
    return width * (height(projection, north) - height(projection, south))


class MapArea(unittest.TestCase):
    """Point 10.3."""

    def test_patches(self):
        for k, projection in enumerate(STRAIGHT):
            for patch in PATCHES + random_patches(k, 5):
                with self.subTest(projection=projection, patch=patch):
                    check_value(self, map_area(projection, patch), area_value(projection, patch), (8, 60, 100), True)

    def test_poles(self):
        for projection in STRAIGHT:
            for patch in POLAR:
                with self.subTest(projection=projection, patch=patch):
                    if projection[0] == "mercator":
                        with self.assertRaises(NoPlace):
                            map_area(projection, patch)
                    else:
                        check_value(self, map_area(projection, patch), area_value(projection, patch), (8, 60, 100))

    def test_lambert_is_box_area(self):
        for projection in STRAIGHT:
            if projection[0] == "lambert":
                for patch in PATCHES + POLAR:
                    check_value(self, map_area(projection, patch), decimals.value_of(box_area(*patch)), (8, 100))

    def test_all_bits(self):
        for projection in STRAIGHT:
            check_value(self, map_area(projection, PATCHES[0]), area_value(projection, PATCHES[0]), range(8, 101))

    def test_no_patches(self):
        for projection in maps.ALL:
            for patch in NO_PATCHES:
                with self.subTest(projection=projection, patch=patch):
                    with self.assertRaises(InvalidPoint):
                        map_area(projection, patch)
                    with self.assertRaises(InvalidPoint):
                        scale_bounds(projection, patch, 20)

    def test_no_scales(self):
        for projection in OTHERS:
            for patch in PATCHES + POLAR:
                with self.subTest(projection=projection, patch=patch):
                    with self.assertRaises(NoScales):
                        map_area(projection, patch)
                    with self.assertRaises(NoScales):
                        scale_bounds(projection, patch, 20)


class Quarters(unittest.TestCase):
    """Point 10.4."""

    def test_four_parts(self):
        self.assertEqual(quarters((0, 10, -20, 0)),
                         [(0, 5, -20, -10), (0, 5, -10, 0), (5, 10, -20, -10), (5, 10, -10, 0)])
        self.assertEqual(quarters((-7, -2, -LON, LON - 1)),
                         [(-7, -5, -LON, -1), (-7, -5, -1, LON - 1), (-5, -2, -LON, -1), (-5, -2, -1, LON - 1)])

    def test_fewer_parts(self):
        self.assertEqual(quarters((0, 3, 0, 1)), [(0, 1, 0, 1), (1, 3, 0, 1)])
        self.assertEqual(quarters((-1, 0, -3, 0)), [(-1, 0, -3, -2), (-1, 0, -2, 0)])
        for patch in ((0, 1, 0, 1), (-1, 0, -1, 0), (-8, -7, -LON, -LON + 1), (LAT - 1, LAT, LON - 2, LON - 1)):
            self.assertEqual(quarters(patch), [patch])

    def test_tiled(self):
        """Every unit of a small patch is in exactly one part."""
        for patch in ((-3, 4, -2, 5), (0, 2, 0, 2), (-5, -4, -3, 3), (5, 9, 7, 8), (-2, 1, -1, 2)):
            south, north, west, east = patch
            parts = quarters(patch)
            self.assertIsInstance(parts, list)
            units = []
            for a, b, c, d in parts:
                self.assertTrue(a < b and c < d)
                units += [(lat, lon) for lat in range(a, b) for lon in range(c, d)]
            self.assertEqual(sorted(units), [(lat, lon) for lat in range(south, north) for lon in range(west, east)])
            self.assertEqual(parts, sorted(parts))

    def test_areas_add_up(self):
        for patch in PATCHES + random_patches(77, 10):
            for projection in STRAIGHT[::2]:
                for area in (lambda part: box_area(*part), lambda part: map_area(projection, part)):
                    total = f.number(0, 1)
                    for part in quarters(patch):
                        total = f.plus(total, area(part))
                    low, high = enclose(f.minus(total, area(patch)), 100)
                    self.assertTrue(low <= 0 <= high and high - low <= 4)

    def test_new_lists(self):
        patch = (0, 10, 0, 10)
        quarters(patch).clear()
        self.assertEqual(len(quarters(patch)), 4)


class ScaleBounds(unittest.TestCase):
    """Point 10.5."""

    def values(self, projection, lat):
        """k and h at a latitude."""
        name, _, _, lat1, _ = projection
        cos = globe.cos(lat)
        if name == "plate":
            return globe.cos(lat1) / cos, Decimal(1)
        if name == "mercator":
            return 1 / cos, 1 / cos
        return globe.cos(lat1) / cos, cos / globe.cos(lat1)

    def latitudes(self, patch):
        """Some latitudes of a patch, and those at which scales are least or greatest."""
        south, north = patch[:2]
        found = {south, north, (south + north) // 2, (2 * south + north) // 3, max(south, min(0, north))}
        return sorted(found | {south + (north - south) * k // 7 for k in range(8)})

    def check(self, projection, patch, bits):
        with self.subTest(projection=projection, patch=patch, bits=bits):
            found = scale_bounds(projection, patch, bits)
            self.assertIsInstance(found, tuple)
            self.assertEqual(len(found), 2)
            values = [self.values(projection, lat) for lat in self.latitudes(patch)]
            for (low, high), row in zip(found, zip(*values)):
                least = min(decimals.floor_units(value, bits) for value in row)
                greatest = max(decimals.ceiling_units(value, bits) for value in row)
                self.assertLessEqual(low, least)
                self.assertGreaterEqual(high, greatest)
                self.assertLessEqual(high - low, greatest - least + 4)

    def test_patches(self):
        for projection in STRAIGHT:
            for patch in PATCHES:
                for bits in (8, 60, 100):
                    self.check(projection, patch, bits)

    def test_by_chance(self):
        for k, projection in enumerate(STRAIGHT):
            for patch in random_patches(900 + k, 3):
                for bits in (8, 33, 160):
                    self.check(projection, patch, bits)

    def test_all_bits(self):
        for projection in STRAIGHT[::3]:
            for bits in range(8, 101):
                self.check(projection, (-10 * D, 20 * D, 0, 1), bits)

    def test_plate_keeps_meridians(self):
        for bits in (8, 100):
            self.assertEqual(scale_bounds(("plate", 0, 0, 0, 0), (0, D, 0, D), bits)[1], (2 ** bits, 2 ** bits))

    def test_poles(self):
        for projection in STRAIGHT:
            for patch in POLAR:
                with self.assertRaises(NoPlace):
                    scale_bounds(projection, patch, 20)

    def test_time(self):
        start = time.monotonic()
        for projection in STRAIGHT:
            scale_bounds(projection, (1 - LAT, LAT - 1, -LON, LON - 1), 160)
        self.assertLess(time.monotonic() - start, 1)
