"""portolan.latitudes: points 7.3 to 7.5."""

import random
import time
import unittest
from decimal import Decimal

from portolan import formulas as f
from portolan.ellipsoids import WGS84
from portolan.enclosures import negated
from portolan.errors import AtPole
from portolan.errors import InvalidPoint
from portolan.errors import TooDeep
from portolan.latitudes import authalic_latitude
from portolan.latitudes import conformal_latitude
from portolan.latitudes import geocentric_latitude
from portolan.latitudes import isometric_latitude
from portolan.latitudes import latitude_of
from portolan.latitudes import parametric_latitude
from portolan.latitudes import zone_area
from portolan.values import enclose

from tests import decimals
from tests import globe
from tests.checks import check_enclosure
from tests.checks import check_value
from tests.maps import D
from tests.maps import LAT

ELLIPSOIDS = [WGS84, (1, 0, 1), (6371000, 0, 7), (1000, 1, 10), (7, 3, 100)]
SPHERES = [(1, 0, 1), (6371000, 0, 7)]
LATITUDES = [0, 1, -1, 12345, 30 * D, 450000000, -571234567, LAT - 1, 1 - LAT]
BITS = (8, 31, 60, 160)


def flattening(ellipsoid):
    return decimals.exactly(ellipsoid[1], ellipsoid[2])


def eccentricity(ellipsoid):
    flat = flattening(ellipsoid)
    return (flat * (2 - flat)).sqrt()


def isometric(ellipsoid, lat):
    """By the tangent of half of the angle to the pole, and powers."""
    e = eccentricity(ellipsoid)
    sine = globe.sin(lat)
    tangent = (1 + sine) / globe.cos(lat)
    return tangent.ln() - e / 2 * ((1 + e * sine).ln() - (1 - e * sine).ln())


def height(ellipsoid, lat):
    """s of point 7.3."""
    e = eccentricity(ellipsoid)
    sine = globe.sin(lat)
    if e == 0:
        return 2 * sine
    return (1 - e * e) * (sine / (1 - e * e * sine * sine) + globe.artanh(e * sine) / e)


class Latitudes(unittest.TestCase):
    """Point 7.3."""

    def values(self, ellipsoid, lat):
        flat = flattening(ellipsoid)
        tangent = globe.sin(lat) / globe.cos(lat)
        psi = isometric(ellipsoid, lat)
        return {
            parametric_latitude: decimals.arctan((1 - flat) * tangent),
            geocentric_latitude: decimals.arctan((1 - flat) * (1 - flat) * tangent),
            isometric_latitude: psi,
            conformal_latitude: decimals.arcsine((psi.exp() - (-psi).exp()) / (psi.exp() + (-psi).exp())),
            authalic_latitude: decimals.arcsine(height(ellipsoid, lat) / height(ellipsoid, LAT)),
        }

    def test_values(self):
        for ellipsoid in ELLIPSOIDS:
            for lat in LATITUDES:
                for function, value in self.values(ellipsoid, lat).items():
                    with self.subTest(ellipsoid=ellipsoid, lat=lat, function=function.__name__):
                        check_value(self, function(ellipsoid, lat), value, BITS, True)
                        # The opposite latitude has the opposite value.
                        check_value(self, function(ellipsoid, -lat), -value, BITS)

    def test_by_chance(self):
        chance = random.Random(1)
        for _ in range(10):
            q = chance.randint(10, 10 ** 6)
            ellipsoid = (chance.randint(1, 10 ** 7), chance.randint(0, q // 10), q)
            lat = chance.randint(1 - LAT, LAT - 1)
            for function, value in self.values(ellipsoid, lat).items():
                check_value(self, function(ellipsoid, lat), value, (8, 60))

    def test_poles(self):
        for ellipsoid in ELLIPSOIDS:
            for function in (parametric_latitude, geocentric_latitude, conformal_latitude, authalic_latitude):
                check_value(self, function(ellipsoid, LAT), decimals.pi() / 2, BITS, True)
                check_value(self, function(ellipsoid, -LAT), -decimals.pi() / 2, BITS)
            for lat in (LAT, -LAT):
                with self.assertRaises(AtPole):
                    isometric_latitude(ellipsoid, lat)

    def test_spheres(self):
        for ellipsoid in SPHERES:
            for lat in LATITUDES:
                for function in (parametric_latitude, geocentric_latitude, conformal_latitude, authalic_latitude):
                    check_value(self, function(ellipsoid, lat), globe.rad(lat), BITS)
                check_value(self, isometric_latitude(ellipsoid, lat), globe.artanh(globe.sin(lat)), BITS)

    def test_equator(self):
        for ellipsoid in ELLIPSOIDS:
            for function in (parametric_latitude, geocentric_latitude, isometric_latitude, conformal_latitude,
                             authalic_latitude):
                self.assertEqual(enclose(function(ellipsoid, 0), 160), (0, 0))


class Zones(unittest.TestCase):
    """Point 7.4."""

    def test_areas(self):
        for ellipsoid in ELLIPSOIDS:
            a = ellipsoid[0]
            for south, north in ((-LAT, LAT), (0, 1), (-1, 0), (-450000000, 301234567), (LAT - 1, LAT), (5, 5), (-LAT, -LAT),
                                 (LAT, LAT), (0, 0)):
                value = decimals.pi() * a * a * (height(ellipsoid, north) - height(ellipsoid, south))
                check_value(self, zone_area(ellipsoid, south, north), value, BITS, True)

    def test_sphere(self):
        check_value(self, zone_area((3, 0, 1), -LAT, LAT), 36 * decimals.pi())
        check_value(self, zone_area((3, 0, 1), 0, LAT), 18 * decimals.pi())

    def test_zones_that_meet(self):
        for ellipsoid in ELLIPSOIDS:
            parts = f.plus(zone_area(ellipsoid, -77 * D, 5), zone_area(ellipsoid, 5, LAT))
            low, high = enclose(f.minus(parts, zone_area(ellipsoid, -77 * D, LAT)), 160)
            self.assertTrue(low <= 0 <= high)

    def test_wrong_sides(self):
        for south, north in ((1, 0), (LAT, -LAT), (0, LAT + 1), (-LAT - 1, 0), (LAT + 1, LAT + 1), (-LAT - 1, -LAT - 1)):
            for ellipsoid in (WGS84, (1, 0, 1)):
                with self.assertRaises(InvalidPoint):
                    zone_area(ellipsoid, south, north)


class LatitudeOf(unittest.TestCase):
    """Point 7.5."""

    def beside(self, ellipsoid, x, z, t):
        """x sin(t) - z cos(t) - e2 N sin(t) cos(t)."""
        e2 = eccentricity(ellipsoid) ** 2
        s, c = decimals.sine(t), decimals.cosine(t)
        return x * s - z * c - e2 * ellipsoid[0] / (1 - e2 * s * s).sqrt() * s * c

    def check(self, ellipsoid, x, z, bits):
        """The difference has other signs at both ends, or a pole is between them."""
        with self.subTest(ellipsoid=ellipsoid, x=x, z=z, bits=bits):
            found = latitude_of(ellipsoid, x, z, bits)
            self.assertIsInstance(found, tuple)
            low, high = found
            self.assertTrue(low <= high <= low + 4)
            ends = [decimals.of_units(n, bits) for n in (low, high)]
            quarter = decimals.pi() / 2
            if -quarter < ends[0]:
                self.assertLessEqual(self.beside(ellipsoid, x, z, ends[0]), 0)
            if ends[1] < quarter:
                self.assertGreaterEqual(self.beside(ellipsoid, x, z, ends[1]), 0)
            self.assertLess(ends[0], quarter)
            self.assertGreater(ends[1], -quarter)
            low, high = negated(found)
            other = latitude_of(ellipsoid, x, -z, bits)
            self.assertTrue(low <= other[1] and other[0] <= high)

    def test_values(self):
        chance = random.Random(2)
        for ellipsoid in ELLIPSOIDS:
            a = ellipsoid[0]
            for k in range(12):
                x = chance.randint(a // 2 + 1, 5 * a)
                z = chance.randint(-5 * a, 5 * a)
                self.check(ellipsoid, x, z, (8, 12, 20, 60, 160)[k % 5])

    def test_there_and_back(self):
        """The latitude of a position above a point, in whole numbers, is that of the point."""
        for ellipsoid in (WGS84, (10 ** 40, 1, 10), (10 ** 40, 0, 1), (10 ** 40, 3, 100)):
            e2 = eccentricity(ellipsoid) ** 2
            for lat in (0, 1, 450000000, -571234567, LAT - 10 ** 5, -899999999, 30 * D):
                for part in (0, 10, -3):
                    above = ellipsoid[0] * part // 10
                    sine, cosine = globe.sin(lat), globe.cos(lat)
                    normal = ellipsoid[0] / (1 - e2 * sine * sine).sqrt()
                    x = int((normal + above) * cosine)
                    z = int((normal * (1 - e2) + above) * sine)
                    if x > 0:
                        self.check(ellipsoid, x, z, 20)
                    if ellipsoid != WGS84 and x > 10 ** 20:
                        for bits in (8, 20, 60):
                            check_enclosure(self, latitude_of(ellipsoid, x, z, bits), globe.rad(lat), bits)

    def test_axis(self):
        quarter = decimals.pi() / 2
        for ellipsoid in ELLIPSOIDS:
            for z in (ellipsoid[0], 10 ** 30 * ellipsoid[0], (ellipsoid[0] + 1) // 2):
                for bits in (8, 20, 160):
                    check_enclosure(self, latitude_of(ellipsoid, 0, z, bits), quarter, bits)
                    check_enclosure(self, latitude_of(ellipsoid, 0, -z, bits), -quarter, bits)

    def test_equator(self):
        for ellipsoid in ELLIPSOIDS:
            for x in ((ellipsoid[0] + 1) // 2, ellipsoid[0], 10 ** 30):
                for bits in (8, 20, 160):
                    check_enclosure(self, latitude_of(ellipsoid, x, 0, bits), Decimal(0), bits)

    def test_near_the_axis_and_the_equator(self):
        for ellipsoid in ELLIPSOIDS:
            a = ellipsoid[0]
            for x, z in ((1, 2 * a), (1, -a), (2 * a, 1), (2 * a, -1), (1, 10 ** 40), (10 ** 40, 1), (1, a), (a, 1)):
                for bits in (8, 20, 160):
                    self.check(ellipsoid, x, z, bits)

    def test_depth(self):
        for x, z in ((500, 0), (0, 500), (0, -500), (300, 400), (300, -400), (499, 32), (1, 500)):
            low, high = latitude_of((1000, 1, 10), x, z, 8)
            self.assertLessEqual(high - low, 4)
            if x > 0:
                self.check((1000, 1, 10), x, z, 20)
        for x, z in ((499, 0), (0, 499), (0, -499), (300, 399), (299, -400), (1, 0), (0, 1), (499, 31)):
            for ellipsoid in ((1000, 1, 10), (1000, 0, 1)):
                with self.assertRaises(TooDeep):
                    latitude_of(ellipsoid, x, z, 8)

    def test_time(self):
        start = time.monotonic()
        latitude_of(WGS84, 4517590, 4487348, 160)
        self.assertLess(time.monotonic() - start, 2)
