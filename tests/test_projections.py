"""portolan.projections: points 8.1 to 8.4."""

import random
import time
import unittest

from portolan.errors import NoPlace
from portolan.points import antipode
from portolan.projections import NAMES
from portolan.projections import forward
from portolan.projections import is_projection
from portolan.projections import kind_of
from portolan.values import enclose

from tests import globe
from tests import maps
from tests.checks import check_values
from tests.globe import has_place
from tests.maps import D
from tests.maps import LAT
from tests.maps import LON

ZERO = (("number", 0, 1),)
KINDS = {
    "plate": "other", "mercator": "conformal", "lambert": "equal-area", "sinus": "equal-area", "gnomonic": "other",
    "stereo": "conformal", "ortho": "other", "disk": "equal-area", "albers": "equal-area", "cone": "conformal",
}


class Projections(unittest.TestCase):
    """Points 8.1, 8.2 and 8.4."""

    def test_names(self):
        self.assertEqual(NAMES, ("plate", "mercator", "lambert", "sinus", "gnomonic", "stereo", "ortho", "disk",
                                 "albers", "cone"))
        self.assertEqual({projection[0] for projection in maps.ALL}, set(NAMES))

    def test_right_ones(self):
        for projection in maps.ALL:
            self.assertIs(is_projection(projection), True, projection)
        for lat0 in (LAT, -LAT):
            self.assertIs(is_projection(("albers", lat0, 0, 0, D)), True)
        for lat0 in (85 * D, -85 * D):
            self.assertIs(is_projection(("cone", lat0, 0, -D, 0)), True)

    def check_wrong(self, *projection):
        self.assertIs(is_projection(projection), False, projection)

    def test_other_names(self):
        for name in ("", "Mercator", "mercator ", "plates", "conic", "number"):
            self.check_wrong(name, 0, 0, 0, 0)

    def test_longitude(self):
        for name, lat0, _, lat1, lat2 in maps.ALL:
            self.check_wrong(name, lat0, LON, lat1, lat2)
            self.check_wrong(name, lat0, -LON - 1, lat1, lat2)

    def test_unused_angles(self):
        for n in (1, -1, D):
            for name in ("plate", "mercator", "lambert", "sinus"):
                self.check_wrong(name, n, 0, 0, 0)
                self.check_wrong(name, 0, 0, 0, n)
            for name in ("mercator", "sinus", "gnomonic", "stereo", "ortho", "disk"):
                self.check_wrong(name, 0, 0, n, 0)
            for name in ("gnomonic", "stereo", "ortho", "disk"):
                self.check_wrong(name, 0, 0, 0, n)

    def test_ranges(self):
        for name in ("plate", "lambert"):
            self.check_wrong(name, 0, 0, -1, 0)
            self.check_wrong(name, 0, 0, 80 * D + 1, 0)
        for name in ("gnomonic", "stereo", "ortho", "disk"):
            self.check_wrong(name, LAT + 1, 0, 0, 0)
            self.check_wrong(name, -LAT - 1, 0, 0, 0)
        for sign in (1, -1):
            self.check_wrong("albers", sign * (LAT + 1), 0, 0, D)
            self.check_wrong("cone", sign * (85 * D + 1), 0, 0, D)
        for name in ("albers", "cone"):
            self.check_wrong(name, 0, 0, 0, 80 * D + 1)
            self.check_wrong(name, 0, 0, -80 * D - 1, 0)

    def test_parallels(self):
        for name in ("albers", "cone"):
            for lat1, lat2 in ((10 * D, 10 * D), (50 * D, 20 * D), (-20 * D, 20 * D), (0, D - 1), (1 - D, 0), (0, 0),
                               (-20 * D, 21 * D - 1), (-21 * D + 1, 20 * D)):
                self.check_wrong(name, 0, 0, lat1, lat2)
            for lat1, lat2 in ((-20 * D, 21 * D), (-21 * D, 20 * D), (0, D), (-D, 0), (-80 * D, -80 * D + 1)):
                self.assertIs(is_projection((name, 0, 0, lat1, lat2)), True)

    def test_kinds(self):
        for projection in maps.ALL:
            self.assertEqual(kind_of(projection), KINDS[projection[0]])


class Forward(unittest.TestCase):
    """Point 8.3."""

    def check(self, projection, point, bits=(8, 60, 160), with_paper=False):
        with self.subTest(projection=projection, point=point):
            if has_place(projection, point):
                found = forward(projection, point)
                check_values(self, found, globe.coordinates(projection, point), bits, with_paper)
            else:
                with self.assertRaises(NoPlace):
                    forward(projection, point)

    def test_edges(self):
        for projection in maps.ALL:
            for point in maps.POINTS:
                self.check(projection, point)

    def test_by_chance(self):
        for k, projection in enumerate(maps.ALL):
            for point in maps.random_points(k, 3):
                self.check(projection, point, (8, 41, 128), True)

    def test_projections_by_chance(self):
        chance = random.Random(3)
        for point in maps.random_points(4, 60):
            name = chance.choice(NAMES)
            projection = (name, chance.choice([0, chance.randint(-85 * D, 85 * D)]), chance.randint(-LON, LON - 1),
                          chance.choice([0, chance.randint(-80 * D, 80 * D)]),
                          chance.choice([0, chance.randint(-80 * D, 80 * D)]))
            if is_projection(projection):
                self.check(projection, point)

    def test_all_bits(self):
        for projection in maps.ALL[::3]:
            for point in ((20 * D, D), (-33 * D, 160 * D)):
                self.check(projection, point, range(8, 161, 8))

    def test_central_meridian(self):
        """On the central meridian, and opposite to it, x is known exactly where it is 0."""
        for projection in maps.ALL:
            for lat in (projection[1] + 1, projection[1] - 7, 0):
                point = (max(-LAT + 1, min(LAT - 1, lat)), projection[2])
                self.check(projection, point)
                self.check(projection, (point[0], antipode(point)[1]))
                if has_place(projection, point):
                    self.assertEqual(forward(projection, point)[0], ZERO)

    def test_center(self):
        for name, lat, lon, _, _ in maps.AZIMUTHAL:
            projection = (name, lat, lon, 0, 0)
            self.assertEqual(forward(projection, (lat, lon)), (ZERO, ZERO))
            if abs(lat) == LAT:
                for other in (0, -LON, LON - 1, 77):
                    self.assertEqual(forward(projection, (lat, other)), (ZERO, ZERO))

    def test_near_the_center(self):
        for name, lat, lon, _, _ in maps.AZIMUTHAL:
            for dlat, dlon in ((1, 0), (0, 1), (1, -1), (-1, 0), (-3, 2)):
                point = (max(-LAT, min(LAT, lat + dlat)), globe.turned(lon + dlon))
                self.check((name, lat, lon, 0, 0), point)

    def test_antipode(self):
        for name in ("stereo", "disk"):
            for lat, lon in maps.CENTERS:
                projection = (name, lat, lon, 0, 0)
                opposite = antipode((lat, lon))
                with self.assertRaises(NoPlace):
                    forward(projection, opposite)
                if abs(lat) == LAT:
                    with self.assertRaises(NoPlace):
                        forward(projection, (-lat, 99))
                for dlat, dlon in ((1, 0), (0, 1), (-1, -1), (0, -2)):
                    point = (max(-LAT, min(LAT, opposite[0] + dlat)), globe.turned(opposite[1] + dlon))
                    self.check(projection, point)

    def test_horizon(self):
        """Where u is 0, ortho has a place, and gnomonic has none."""
        found = []
        for lon0 in (0, 100 * D, -LON):
            for lat in (0, 1, 45 * D, -77 * D, LAT, -LAT):
                for side in (LAT, -LAT):
                    found.append(((0, lon0), (lat, globe.turned(lon0 + side))))
            for lat0 in (LAT, -LAT):
                for lon in (0, 12345, lon0, globe.turned(lon0 + LON), globe.turned(lon0 + LAT)):
                    found.append(((lat0, lon0), (0, lon)))
        for center, point in found:
            self.check(("ortho", *center, 0, 0), point)
            with self.assertRaises(NoPlace):
                forward(("gnomonic", *center, 0, 0), point)

    def test_beside_the_horizon(self):
        for center, near, far in (
                ((0, 0), (5, LAT - 1), (5, LAT + 1)), ((LAT, 0), (1, 77), (-1, 77)), ((-LAT, 3), (-1, 77), (1, 77)),
                ((45 * D, 0), (-45 * D + 1, 0), (-45 * D - 1, 0)), ((30 * D, 10), (0, LAT + 9), (0, LAT + 11)),
                ((20 * D, 0), (70 * D + 1, -LON), (70 * D - 1, -LON))):
            for name in ("gnomonic", "ortho"):
                self.check((name, *center, 0, 0), near)
                with self.assertRaises(NoPlace):
                    forward((name, *center, 0, 0), far)

    def test_whole_arcs(self):
        """On the meridian of the center u is the cosine of a whole angle, so it is known where it is 0."""
        for center, point in (((45 * D, 0), (-45 * D, 0)), ((-50 * D, 7), (-40 * D, 7 - LON)), ((LAT - 1, 0), (-1, 0))):
            self.check(("ortho", *center, 0, 0), point)
            with self.assertRaises(NoPlace):
                forward(("gnomonic", *center, 0, 0), point)

    def test_time(self):
        for projection in maps.ALL:
            start = time.monotonic()
            for formula in forward(projection, (projection[1] // 2 + 1, projection[2])):
                enclose(formula, 160)
            self.assertLess(time.monotonic() - start, 0.5)
