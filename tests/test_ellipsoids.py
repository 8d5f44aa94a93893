"""portolan.ellipsoids: points 7.1 and 7.2."""

import unittest
from decimal import Decimal
from fractions import Fraction
from math import gcd

from portolan.ellipsoids import WGS84
from portolan.ellipsoids import eccentricity2
from portolan.ellipsoids import half_axis
from portolan.ellipsoids import is_ellipsoid
from portolan.ellipsoids import meridian_radius
from portolan.ellipsoids import normal_radius
from portolan.ellipsoids import position
from portolan.values import floor_of

from tests import globe
from tests import maps
from tests.checks import check_value
from tests.checks import check_values
from tests.decimals import exactly
from tests.maps import D
from tests.maps import LAT
from tests.maps import LON

ELLIPSOIDS = [WGS84, (1, 0, 1), (6371000, 0, 7), (1000, 1, 10), (7, 3, 100), (10 ** 30, 1, 300), (5, 10, 1000)]
LATITUDES = [0, 1, -1, 30 * D, 450000000, -571234567, LAT - 1, 1 - LAT, LAT, -LAT]
BITS = (8, 31, 60, 160)


class Ellipsoids(unittest.TestCase):
    """Point 7.1."""

    def test_is_ellipsoid(self):
        for value in ELLIPSOIDS + [(1, 0, 1), (1, 10 ** 50, 10 ** 51), (2, 1, 10), (1, 0, 10 ** 40)]:
            self.assertIs(is_ellipsoid(value), True)
        for value in ((0, 0, 1), (-1, 0, 1), (1, -1, 1), (1, 0, 0), (1, 0, -1), (1, 1, 9), (5, 11, 109), (1, -1, -10),
                      (1, 1, 1), (-5, 1, 100)):
            self.assertIs(is_ellipsoid(value), False)

    def test_wgs84(self):
        self.assertEqual(WGS84, (6378137, 1000000000, 298257223563))
        self.assertEqual(floor_of(half_axis(WGS84)), 6356752)

    def test_eccentricity2(self):
        self.assertEqual(eccentricity2((2, 1, 10)), (19, 100))
        self.assertEqual(eccentricity2((2, 2, 20)), (19, 100))
        self.assertEqual(eccentricity2((9, 0, 1)), (0, 1))
        self.assertEqual(eccentricity2((9, 0, 77)), (0, 1))
        for ellipsoid in ELLIPSOIDS:
            p, q = eccentricity2(ellipsoid)
            f = Fraction(ellipsoid[1], ellipsoid[2])
            self.assertEqual(Fraction(p, q), f * (2 - f))
            self.assertEqual(gcd(p, q), 1)
            self.assertGreaterEqual(q, 1)

    def test_half_axis(self):
        for a, p, q in ELLIPSOIDS:
            check_value(self, half_axis((a, p, q)), a * (1 - Fraction(p, q)), BITS, True)


class Radii(unittest.TestCase):
    """Point 7.2."""

    def shape(self, ellipsoid, lat):
        """e2, the sine of a latitude, and N."""
        a, p, q = ellipsoid
        f = exactly(p, q)
        e2 = f * (2 - f)
        sine = globe.sin(lat)
        return e2, sine, a / (1 - e2 * sine * sine).sqrt()

    def test_radii(self):
        for ellipsoid in ELLIPSOIDS:
            for lat in LATITUDES:
                with self.subTest(ellipsoid=ellipsoid, lat=lat):
                    e2, sine, normal = self.shape(ellipsoid, lat)
                    check_value(self, normal_radius(ellipsoid, lat), normal, BITS)
                    value = normal * (1 - e2) / (1 - e2 * sine * sine)
                    check_value(self, meridian_radius(ellipsoid, lat), value, BITS, True)

    def test_spheres(self):
        for lat in LATITUDES:
            check_value(self, normal_radius((5, 0, 3), lat), Decimal(5))
            check_value(self, meridian_radius((5, 0, 3), lat), Decimal(5))

    def test_position(self):
        for ellipsoid in ELLIPSOIDS:
            for k, lat in enumerate(LATITUDES):
                for lon, height in (((0, 0), (-LON, 7), (123456789, -3), (-LAT, 10 ** 6))[k % 4], (LON - 1, -k)):
                    with self.subTest(ellipsoid=ellipsoid, lat=lat, lon=lon, height=height):
                        e2, sine, normal = self.shape(ellipsoid, lat)
                        across = (normal + height) * globe.cos(lat)
                        value = (across * globe.cos(lon), across * globe.sin(lon), (normal * (1 - e2) + height) * sine)
                        check_values(self, position(ellipsoid, (lat, lon), height), value, BITS)

    def test_positions_by_chance(self):
        """Points at the height 0 lie on the surface."""
        for point in maps.random_points(9, 20):
            e2, sine, normal = self.shape(WGS84, point[0])
            x, y, z = (normal * globe.cos(point[0]) * globe.cos(point[1]),
                       normal * globe.cos(point[0]) * globe.sin(point[1]), normal * (1 - e2) * sine)
            a = Decimal(WGS84[0])
            self.assertLess(abs((x * x + y * y) / (a * a) + z * z / (a * a * (1 - e2)) - 1), Decimal(10) ** -250)
            check_values(self, position(WGS84, point, 0), (x, y, z), (8, 160), True)
