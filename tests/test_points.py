"""portolan.points: points 5.1 to 5.3."""

import unittest

from portolan import formulas as f
from portolan.errors import InvalidPoint
from portolan.points import DEGREE
from portolan.points import antipode
from portolan.points import degrees
from portolan.points import is_point
from portolan.points import made_point
from portolan.points import radians
from portolan.points import wrapped

from tests import decimals
from tests.checks import check_value

LAT = 90 * 10 ** 7
LON = 180 * 10 ** 7
ANGLES = [0, 1, -1, 7, -123456789, 333333333, 900000000, -900000000, 1800000000, -1800000001, 3600000000,
          12345678901, -9999999999]


class Points(unittest.TestCase):
    """Points 5.1 and 5.2."""

    def test_degree(self):
        self.assertEqual(DEGREE, 10000000)

    def test_is_point(self):
        for lat in (LAT, -LAT, 0, 123):
            for lon in (-LON, LON - 1, 0, -5):
                self.assertIs(is_point((lat, lon)), True)
            self.assertIs(is_point((lat, LON)), False)
            self.assertIs(is_point((lat, -LON - 1)), False)
        for lat in (LAT + 1, -LAT - 1, 10 ** 30, -10 ** 30):
            self.assertIs(is_point((lat, 0)), False)

    def test_wrapped(self):
        for angle in (-LON, LON - 1, 0, 1, -1, 77):
            for turns in (0, 1, -1, 5, -6, 10 ** 20):
                self.assertEqual(wrapped(angle + turns * 2 * LON), angle)
        self.assertEqual(wrapped(LON), -LON)
        self.assertEqual(wrapped(3 * LON), -LON)
        self.assertEqual(wrapped(-3 * LON), -LON)
        self.assertEqual(wrapped(-LON - 1), LON - 1)

    def test_made_point(self):
        self.assertEqual(made_point(LAT, 5), (LAT, 5))
        self.assertEqual(made_point(-LAT, LON), (-LAT, -LON))
        self.assertEqual(made_point(12, 2 * LON + 3), (12, 3))
        self.assertEqual(made_point(12, -5 * LON - 3), (12, LON - 3))
        for lat in (LAT + 1, -LAT - 1, 2 * LAT):
            with self.assertRaises(InvalidPoint):
                made_point(lat, 0)

    def test_antipode(self):
        self.assertEqual(antipode((10, 20)), (-10, 20 - LON))
        self.assertEqual(antipode((10, -20)), (-10, LON - 20))
        self.assertEqual(antipode((0, 0)), (0, -LON))
        self.assertEqual(antipode((0, -LON)), (0, 0))
        self.assertEqual(antipode((LAT, 7)), (-LAT, 7 - LON))
        for point in ((1, 2), (LAT, -LON), (-LAT, LON - 1), (0, 0), (-5, -LON)):
            self.assertTrue(is_point(antipode(point)))
            self.assertEqual(antipode(antipode(point)), point)


class Radians(unittest.TestCase):
    """Point 5.3."""

    BITS = (8, 9, 31, 64, 128, 160)

    def test_radians(self):
        for angle in ANGLES:
            value = decimals.exactly(angle, 180 * 10 ** 7) * decimals.pi()
            check_value(self, radians(angle), value, self.BITS, True)

    def test_degrees(self):
        check_value(self, degrees(f.pi_formula()), decimals.Decimal(180), self.BITS, True)
        for p, q in ((0, 1), (1, 1), (-22, 7), (10 ** 6, 3)):
            value = decimals.exactly(p, q) * 180 / decimals.pi()
            check_value(self, degrees(f.number(p, q)), value, self.BITS, True)

    def test_degrees_of_radians(self):
        for angle in ANGLES:
            check_value(self, degrees(radians(angle)), decimals.exactly(angle, 10 ** 7), self.BITS, True)
