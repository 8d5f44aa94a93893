"""portolan.scales: points 10.1 and 10.2, and what 8.4 says of them."""

import random
import time
import unittest
from decimal import Decimal

from portolan.enclosures import common
from portolan.errors import AtPole
from portolan.errors import NoPlace
from portolan.errors import NoScales
from portolan.points import antipode
from portolan.projections import NAMES
from portolan.projections import is_projection
from portolan.projections import kind_of
from portolan.scales import area_scale
from portolan.scales import scales
from portolan.values import enclose

from tests import globe
from tests import maps
from tests.checks import check_value
from tests.checks import check_values
from tests.globe import has_place
from tests.maps import D
from tests.maps import LAT
from tests.maps import LON

ONE = (("number", 1, 1),)
WITHOUT = ("sinus", "gnomonic", "ortho", "disk")
WITHOUT_POLES = ("plate", "mercator", "lambert", "cone", "albers")


def nearness(projection, point):
    """The cosine u of the distance from the center."""
    return globe.cosine_between((projection[1], projection[2]), point)


def scale_values(projection, point):
    """h and k, as the document writes them."""
    name, _, _, lat1, _ = projection
    t = point[0]
    if name == "plate":
        return Decimal(1), globe.cos(lat1) / globe.cos(t)
    if name == "mercator":
        return 1 / globe.cos(t), 1 / globe.cos(t)
    if name == "lambert":
        return globe.cos(t) / globe.cos(lat1), globe.cos(lat1) / globe.cos(t)
    if name == "stereo":
        scale = 2 / (1 + nearness(projection, point))
        return scale, scale
    k = globe.cone_number(projection) * globe.cone_radius(projection, t) / globe.cos(t)
    return (k, k) if name == "cone" else (1 / k, k)


def area_value(projection, point):
    name = projection[0]
    if name in ("sinus", "disk"):
        return Decimal(1)
    u = nearness(projection, point)
    if name == "gnomonic":
        return 1 / (u * u * u)
    if name == "ortho":
        return u
    if name == "stereo":
        return 4 / ((1 + u) * (1 + u))
    h, k = scale_values(projection, point)
    return h * k


def differences(projection, point, reach=1000):
    """The ways on the map to the east and to the north from a point, by differences, for a way of the length 1."""
    lat, lon = point
    ways = []
    for dlat, dlon, size in ((0, reach, globe.cos(lat)), (reach, 0, Decimal(1))):
        ahead = globe.coordinates(projection, (lat + dlat, globe.turned(lon + dlon)))
        back = globe.coordinates(projection, (lat - dlat, globe.turned(lon - dlon)))
        ways.append([(a - b) / (size * globe.rad(2 * reach)) for a, b in zip(ahead, back)])
    return ways


def some_points(projection):
    """Points at the equator, the center, the standard parallels, near poles, on both sides of the central meridian."""
    _, lat0, lon0, lat1, lat2 = projection
    for lat in sorted({0, 1, lat0, lat1, lat2, -lat1, -lat0, LAT - 1, 1 - LAT, LAT - D, -LAT + D, 33 * D + 7}):
        if abs(lat) != LAT:
            for d in (0, 50 * D, -50 * D):
                yield lat, globe.turned(lon0 + d)


class Scales(unittest.TestCase):
    """Point 10.1."""

    def check(self, projection, point, bits=(8, 60, 100), with_paper=False):
        with self.subTest(projection=projection, point=point):
            wanted = None
            if projection[0] in WITHOUT:
                wanted = NoScales
            elif abs(point[0]) == LAT:
                wanted = AtPole
            elif not has_place(projection, point):
                wanted = NoPlace
            if wanted is None:
                check_values(self, scales(projection, point), scale_values(projection, point), bits, with_paper)
            else:
                with self.assertRaises(wanted):
                    scales(projection, point)

    def test_edges(self):
        for projection in maps.ALL:
            for point in maps.POINTS:
                self.check(projection, point)

    def test_some_points(self):
        for projection in maps.ALL:
            for point in some_points(projection):
                self.check(projection, point)

    def test_by_chance(self):
        for k, projection in enumerate(maps.ALL):
            for point in maps.random_points(300 + k, 3):
                self.check(projection, point, (8, 41, 160), True)

    def test_projections_by_chance(self):
        chance = random.Random(31)
        for point in maps.random_points(32, 80):
            projection = (chance.choice(NAMES), chance.choice([0, chance.randint(-85 * D, 85 * D)]),
                          chance.randint(-LON, LON - 1), chance.randint(-80 * D, 80 * D),
                          chance.choice([0, chance.randint(-80 * D, 80 * D)]))
            if is_projection(projection):
                self.check(projection, point)

    def test_all_bits(self):
        for projection in maps.ALL[::3]:
            self.check(projection, (20 * D, D), range(8, 101))

    def test_known_values(self):
        for projection in maps.ALL:
            name, lat0, lon0, lat1, lat2 = projection
            if name == "stereo" and abs(lat0) != LAT:
                self.assertEqual(scales(projection, (lat0, lon0)), (ONE, ONE))
            if name in ("albers", "cone"):
                for lat in (lat1, lat2):
                    check_values(self, scales(projection, (lat, 5)), (Decimal(1), Decimal(1)), (8, 60, 100))
            if name in ("plate", "lambert"):
                for lat in (lat1, -lat1):
                    check_values(self, scales(projection, (lat, 5)), (Decimal(1), Decimal(1)), (8, 60, 100))
        self.assertEqual(scales(("mercator", 0, 77, 0, 0), (0, 5)), (ONE, ONE))

    def test_by_differences(self):
        """The scales are those of short ways on the map."""
        for projection in maps.ALL:
            if projection[0] not in WITHOUT:
                for point in ((12 * D, globe.turned(projection[2] + 40 * D)), (-56 * D, globe.turned(projection[2] - 7 * D))):
                    east, north = differences(projection, point)
                    for formula, way in zip(scales(projection, point), (north, east)):
                        low, high = enclose(formula, 60)
                        size = (way[0] * way[0] + way[1] * way[1]).sqrt() * 2 ** 60
                        self.assertLess(abs(size / low - 1), Decimal("1e-9"))
                        self.assertLess(high - low, 5)

    def test_order_of_errors(self):
        for lat0, pole in ((LAT, (-LAT, 5)), (-LAT, (LAT, 0)), (LAT, (LAT, 0)), (0, (LAT, 0)), (0, (-LAT, -LON))):
            with self.assertRaises(AtPole):
                scales(("stereo", lat0, 0, 0, 0), pole)
        for name in ("mercator", "cone"):
            for pole in ((LAT, 0), (-LAT, LON - 1)):
                with self.assertRaises(AtPole):
                    scales((name, 0, 0, 0, D if name == "cone" else 0), pole)
        for name in WITHOUT:
            for center in (0, LAT):
                for point in ((LAT, 0), (-LAT, 0), (0, -LON), (0, 0)):
                    with self.assertRaises(NoScales):
                        scales((name, 0 if name == "sinus" else center, 0, 0, 0), point)

    def test_antipode(self):
        for lat, lon in maps.CENTERS:
            if abs(lat) != LAT:
                for function in (scales, area_scale):
                    with self.assertRaises(NoPlace):
                        function(("stereo", lat, lon, 0, 0), antipode((lat, lon)))

    def test_time(self):
        for projection in maps.ALL:
            if projection[0] not in WITHOUT:
                start = time.monotonic()
                for formula in scales(projection, (1, globe.turned(projection[2] + 7))):
                    enclose(formula, 160)
                self.assertLess(time.monotonic() - start, 0.5)


class AreaScale(unittest.TestCase):
    """Point 10.2."""

    def check(self, projection, point, bits=(8, 60, 100), with_paper=False):
        with self.subTest(projection=projection, point=point):
            wanted = None
            if projection[0] in WITHOUT_POLES and abs(point[0]) == LAT:
                wanted = AtPole
            elif not has_place(projection, point):
                wanted = NoPlace
            if wanted is None:
                check_value(self, area_scale(projection, point), area_value(projection, point), bits, with_paper)
            else:
                with self.assertRaises(wanted):
                    area_scale(projection, point)

    def test_edges(self):
        for projection in maps.ALL:
            for point in maps.POINTS:
                self.check(projection, point)

    def test_some_points(self):
        for projection in maps.ALL[::2]:
            for point in some_points(projection):
                self.check(projection, point)

    def test_by_chance(self):
        for k, projection in enumerate(maps.ALL):
            for point in maps.random_points(400 + k, 3):
                self.check(projection, point, (8, 41, 160), True)

    def test_all_bits(self):
        for projection in maps.ALL[::4]:
            self.check(projection, (20 * D, D), range(8, 101))

    def test_equal_area(self):
        for projection in maps.ALL:
            if kind_of(projection) == "equal-area":
                for point in some_points(projection):
                    if has_place(projection, point):
                        self.assertEqual(enclose(area_scale(projection, point), 100), (2 ** 100, 2 ** 100))

    def test_poles(self):
        for name in ("sinus", "stereo", "gnomonic", "ortho", "disk"):
            for lat in (LAT, -LAT):
                for lat0 in ((0,) if name == "sinus" else (LAT, -LAT, 30 * D, -1, 0)):
                    self.check((name, lat0, 0, 0, 0), (lat, 5))
        for name in ("plate", "mercator", "lambert"):
            for lat in (LAT, -LAT):
                with self.assertRaises(AtPole):
                    area_scale((name, 0, 0, 0, 0), (lat, 5))

    def test_horizon(self):
        """Where u is 0, the area scale of ortho is 0, and gnomonic has no place."""
        for center, point in (((0, 0), (5, LAT)), ((0, 0), (LAT, 5)), ((LAT, 3), (0, 77)), ((45 * D, 0), (-45 * D, 0))):
            self.assertEqual(enclose(area_scale(("ortho", *center, 0, 0), point), 60), (0, 0))
            with self.assertRaises(NoPlace):
                area_scale(("gnomonic", *center, 0, 0), point)

    def test_beside_the_horizon(self):
        for center, near, far in (((0, 0), (5, LAT - 1), (5, LAT + 1)), ((LAT, 0), (1, 77), (-1, 77)),
                                  ((-LAT, 3), (-1, 77), (1, 77)), ((30 * D, 10), (0, LAT + 9), (0, LAT + 11))):
            for name in ("gnomonic", "ortho"):
                self.check((name, *center, 0, 0), near)
                with self.assertRaises(NoPlace):
                    area_scale((name, *center, 0, 0), far)

    def test_antipode(self):
        for name in ("stereo", "disk"):
            for lat, lon in maps.CENTERS:
                with self.assertRaises(NoPlace):
                    area_scale((name, lat, lon, 0, 0), antipode((lat, lon)))
                opposite = antipode((lat, lon))
                for dlat in (1, -1):
                    if abs(opposite[0] + dlat) <= LAT:
                        self.check((name, lat, lon, 0, 0), (opposite[0] + dlat, opposite[1]))


class Kinds(unittest.TestCase):
    """What points 8.4, 10.1 and 10.2 say together."""

    def test_conformal(self):
        for projection in maps.ALL:
            if kind_of(projection) == "conformal":
                for point in some_points(projection):
                    if has_place(projection, point):
                        for bits in (8, 60, 100):
                            h, k = [enclose(formula, bits) for formula in scales(projection, point)]
                            self.assertIsNotNone(common(h, k))

    def test_small_patches(self):
        """The image of a small patch has nearly the area scale times its area."""
        for projection in maps.ALL:
            for point in ((12 * D, globe.turned(projection[2] + 40 * D)), (-56 * D, globe.turned(projection[2] - 7 * D))):
                if has_place(projection, point) and nearness(projection, point) > Decimal("-0.999"):
                    east, north = differences(projection, point)
                    low, high = enclose(area_scale(projection, point), 60)
                    value = (east[0] * north[1] - east[1] * north[0]) * 2 ** 60
                    self.assertLess(abs(value / low - 1), Decimal("1e-9"))
                    self.assertLess(high - low, 5)
