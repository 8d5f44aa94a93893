"""portolan.inverses: points 9.1 to 9.4."""

import random
import time
import unittest
from decimal import Decimal

from portolan import formulas as f
from portolan.conics import cone_radius
from portolan.errors import NoPlace
from portolan.errors import Undecided
from portolan.errors import Undefined
from portolan.inverses import angle_of
from portolan.inverses import inverse
from portolan.inverses import nearest
from portolan.points import radians
from portolan.projections import forward
from portolan.values import enclose

from tests import decimals
from tests import globe
from tests import maps
from tests.checks import check_value
from tests.checks import check_values
from tests.maps import D
from tests.maps import LAT
from tests.maps import LON

PI = f.pi_formula()
TWO_ROOT = f.applied("root", f.number(2, 1))
# Its value is 0, but that is not known exactly.
NOTHING = f.minus(TWO_ROOT, TWO_ROOT)


def n(p, q=1):
    return f.number(p, q)


def is_at_home(projection, point):
    """Whether point 9.2 speaks of a point."""
    name, lat0, lon0, _, _ = projection
    if abs(point[0]) == LAT or globe.turned(point[1] - lon0) == -LON:
        return False
    u = globe.cosine_between((lat0, lon0), point)
    if name in ("gnomonic", "ortho"):
        return u > Decimal(10) ** -200
    return True


class Home(unittest.TestCase):
    """Points 9.2 and 9.4: home again."""

    def check(self, projection, point, bits=(8, 60)):
        if not is_at_home(projection, point):
            return
        with self.subTest(projection=projection, point=point):
            x, y = forward(projection, point)
            lat = globe.rad(point[0])
            lon = globe.rad(projection[2] + globe.turned(point[1] - projection[2]))
            found = inverse(projection, x, y)
            if (x, y) == ((("number", 0, 1),), (("number", 0, 1),)):
                lon = globe.rad(projection[2])
            check_values(self, found, (lat, lon), bits)
            self.assertEqual(nearest(projection, x, y), point)

    def test_edges(self):
        for projection in maps.ALL:
            for point in maps.POINTS:
                self.check(projection, point)

    def test_by_chance(self):
        for k, projection in enumerate(maps.ALL):
            for point in maps.random_points(100 + k, 4):
                self.check(projection, point, (8, 160))

    def test_special_meridians_and_the_equator(self):
        for projection in maps.ALL:
            lon0 = projection[2]
            for lat in (0, projection[1] // 2, LAT - 1):
                for d in (0, 1, -1, LAT, -LAT, LON - 1, 1 - LON):
                    self.check(projection, (lat, globe.turned(lon0 + d)), (20,))

    def test_greatest_longitudes(self):
        for projection in maps.ALL:
            for lat in (0, 123456789, -600000001):
                for lon in (-LON, LON - 1, -LON + 1):
                    self.check(projection, (lat, lon), (20,))

    def test_near_the_center(self):
        for projection in maps.AZIMUTHAL:
            name, lat, lon, _, _ = projection
            for dlat, dlon in ((1, 0), (0, 1), (-1, -1), (0, 0)):
                self.check(projection, (max(-LAT, min(LAT, lat + dlat)), globe.turned(lon + dlon)), (8, 160))

    def test_near_the_horizon(self):
        for center, point in (((0, 0), (5, LAT - 1)), ((LAT, 0), (1, 77)), ((-LAT, 3), (-1, 77)),
                              ((45 * D, 0), (-45 * D + 1, 0)), ((30 * D, 10), (0, LAT + 9)), ((0, 0), (0, 1 - LAT))):
            for name in ("gnomonic", "ortho"):
                self.check((name, *center, 0, 0), point, (8, 160))

    def test_near_the_antipode(self):
        for center, point in (((0, 0), (1, -LON + 1)), ((LAT, 0), (1 - LAT, 77)), ((-LAT, 3), (LAT - 1, 77)),
                              ((45 * D, 0), (-45 * D, LON - 1))):
            for name in ("stereo", "disk"):
                self.check((name, *center, 0, 0), point, (8, 160))

    def test_papers(self):
        for k, projection in enumerate(maps.ALL):
            for point in maps.random_points(200 + k, 1):
                if is_at_home(projection, point):
                    x, y = forward(projection, point)
                    lon = globe.rad(projection[2] + globe.turned(point[1] - projection[2]))
                    check_values(self, inverse(projection, x, y), (globe.rad(point[0]), lon), (30,), True)

    def test_moved_places(self):
        """Coordinates that are moved by far less than half a unit belong to the same point."""
        for projection in maps.ALL:
            for point in ((31 * D, projection[2]), (40 * D + 7, globe.turned(projection[2] + 3 * D))):
                if is_at_home(projection, point):
                    x, y = forward(projection, point)
                    for dx, dy in ((1, 0), (0, -1), (-1, 1)):
                        moved = (f.plus(x, n(dx, 10 ** 13)), f.plus(y, n(dy, 10 ** 13)))
                        self.assertEqual(nearest(projection, *moved), point)


class Inverse(unittest.TestCase):
    """Point 9.1."""

    def nowhere(self, projection, x, y):
        with self.subTest(projection=projection, x=x, y=y):
            for function in (inverse, nearest):
                with self.assertRaises(NoPlace):
                    function(projection, x, y)

    def test_ends_of_the_width(self):
        """d is from -pi to pi."""
        tiny = n(1, 10 ** 40)
        for projection in maps.CYLINDRICAL:
            name, _, lon0, lat1, _ = projection
            width = f.times(PI, f.applied("cosine", radians(lat1)))
            for sign in (1, -1):
                inside = f.times(n(sign), f.minus(width, tiny))
                outside = f.times(n(sign), f.plus(width, tiny))
                lat, lon = inverse(projection, inside, n(0))
                value = globe.rad(lon0) + sign * (decimals.pi() - 1 / (Decimal(10) ** 40 * globe.cos(lat1)))
                check_values(self, (lat, lon), (Decimal(0), value))
                self.nowhere(projection, outside, n(0))
            for x in (n(4), n(-4), n(10 ** 50), f.times(n(-10), PI)):
                self.nowhere(projection, x, n(0))
                self.nowhere(projection, x, n(1, 2))

    def test_exact_ends(self):
        for projection in maps.CYLINDRICAL:
            if projection[3] == 0:
                for sign in (1, -1):
                    lat, lon = inverse(projection, radians(sign * LON), n(0))
                    check_values(self, (lat, lon), (Decimal(0), globe.rad(projection[2] + sign * LON)))
        for sign in (1, -1):
            lat, lon = inverse(("plate", 0, 0, 0, 0), n(1), radians(sign * LAT))
            check_values(self, (lat, lon), (globe.rad(sign * LAT), Decimal(1)))

    def test_undecided_ends(self):
        also_pi = f.times(n(2), f.over(PI, n(2)))
        for projection, x, y in ((("plate", 0, 0, 0, 0), f.plus(also_pi, NOTHING), n(0)),
                                 (("mercator", 0, 0, 0, 0), f.plus(also_pi, NOTHING), n(0)),
                                 (("plate", 0, 0, 0, 0), n(0), f.over(f.plus(also_pi, NOTHING), n(2))),
                                 (("mercator", 0, 0, 0, 0), n(0), f.plus(n(30), NOTHING)),
                                 (("ortho", 0, 0, 0, 0), n(0), f.plus(n(1), NOTHING)),
                                 (("disk", 0, 0, 0, 0), n(0), f.plus(n(2), NOTHING))):
            with self.assertRaises(Undecided):
                inverse(projection, x, y)

    def test_certain_in_spite_of_undecided(self):
        """Where one number is certainly too great, another one need not be decided."""
        self.nowhere(("plate", 0, 0, 0, 0), f.plus(PI, NOTHING), n(2))
        self.nowhere(("mercator", 0, 0, 0, 0), f.plus(PI, NOTHING), n(31))
        self.nowhere(("lambert", 0, 0, 0, 0), n(4), f.plus(n(1), NOTHING))

    def test_plate(self):
        projection = ("plate", 0, 5 * D, 60 * D, 0)
        check_values(self, inverse(projection, n(-1, 3), n(1, 7)),
                     (decimals.exactly(1, 7), globe.rad(5 * D) - decimals.exactly(1, 3) / globe.cos(60 * D)))
        for y in (n(2), n(-2), f.over(f.plus(PI, n(1, 10 ** 30)), n(2)), f.over(f.plus(PI, n(1, 10 ** 30)), n(-1)), PI):
            self.nowhere(projection, n(0), y)
        for y in (n(-1571, 1000), n(1571, 1000)):
            self.nowhere(("plate", 0, 0, 0, 0), n(0), y)

    def test_mercator(self):
        projection = ("mercator", 0, -LON, 0, 0)
        for p, q in ((0, 1), (1, 2), (-3, 1), (30, 1), (-30, 1), (10 ** 30, 10 ** 30)):
            y = decimals.exactly(p, q)
            value = decimals.arctan((y.exp() - (-y).exp()) / 2)
            check_values(self, inverse(projection, n(2), n(p, q)), (value, 2 - decimals.pi()))
        for y in (n(31), n(-31), n(30 * 10 ** 30 + 1, 10 ** 30), n(-30 * 10 ** 30 - 1, 10 ** 30), n(10 ** 60), n(-65),
                  f.plus(n(30), f.applied("root", n(1, 10 ** 20)))):
            self.nowhere(projection, n(0), y)
        self.assertEqual(nearest(("mercator", 0, 0, 0, 0), n(0), n(30)), (LAT, 0))

    def test_lambert(self):
        for lat1 in (0, 60 * D, 80 * D):
            projection = ("lambert", 0, 0, lat1, 0)
            for p, q in ((0, 1), (1, 2), (-9, 10)):
                y = decimals.exactly(p, q)
                value = decimals.arcsine(y * globe.cos(lat1))
                check_values(self, inverse(projection, n(1, 9), n(p, q)),
                             (value, decimals.exactly(1, 9) / globe.cos(lat1)))
            for y in (n(6), n(-6)):
                self.nowhere(projection, n(0), y)
        projection = ("lambert", 0, 0, 0, 0)
        check_values(self, inverse(projection, n(0), n(1)), (decimals.pi() / 2, Decimal(0)))
        for y in (n(10 ** 30 + 1, 10 ** 30), n(-10 ** 30 - 1, 10 ** 30), TWO_ROOT):
            self.nowhere(projection, n(0), y)

    def test_sinus(self):
        projection = ("sinus", 0, D, 0, 0)
        check_values(self, inverse(projection, n(1), n(1)), (Decimal(1), 1 / decimals.cosine(Decimal(1)) + globe.rad(D)))
        for x, y in ((n(0), radians(LAT)), (n(0), radians(-LAT)), (n(0), n(2)), (n(0), n(-2)), (n(2), n(1)), (n(-2), n(-1)),
                     (n(1, 10), n(157, 100)), (n(4), n(0))):
            self.nowhere(projection, x, y)

    def azimuthal(self, projection, x, y):
        """The place as the document writes it, by the distance from the center."""
        name, lat0, lon0, _, _ = projection
        r = (x * x + y * y).sqrt()
        c = {"gnomonic": lambda: decimals.arctan(r), "stereo": lambda: 2 * decimals.arctan(r / 2),
             "ortho": lambda: decimals.arcsine(r), "disk": lambda: 2 * decimals.arcsine(r / 2)}[name]()
        sine, cosine = decimals.sine(c), decimals.cosine(c)
        lat = decimals.arcsine(cosine * globe.sin(lat0) + y * sine * globe.cos(lat0) / r)
        if abs(lat0) == LAT:
            return lat, globe.rad(lon0) + globe.atan2(x, -y if lat0 > 0 else y)
        beside = r * globe.cos(lat0) * cosine - y * globe.sin(lat0) * sine
        return lat, globe.rad(lon0) + globe.atan2(x * sine, beside)

    def test_azimuthal(self):
        for projection in maps.AZIMUTHAL:
            for x, y in (((1, 2), (1, 3)), ((-1, 2), (1, 3)), ((1, 10 ** 9), (-3, 4)), ((-2, 3), (-7, 10)), ((0, 1), (1, 5)),
                         ((0, 1), (-1, 7)), ((1, 5), (0, 1)), ((-1, 5), (0, 1))):
                with self.subTest(projection=projection, x=x, y=y):
                    value = self.azimuthal(projection, decimals.exactly(*x), decimals.exactly(*y))
                    check_values(self, inverse(projection, n(*x), n(*y)), value, (8, 60))

    def test_far_places(self):
        for center in ((0, 0), (400000000, D), (LAT, 0)):
            for name, x, y in (("gnomonic", 10 ** 9, -3), ("stereo", -10 ** 9, 10 ** 9), ("gnomonic", 5, 10 ** 20)):
                projection = (name, *center, 0, 0)
                check_values(self, inverse(projection, n(x), n(y)), self.azimuthal(projection, Decimal(x), Decimal(y)),
                             (8, 60))

    def test_center(self):
        for projection in maps.AZIMUTHAL:
            name, lat0, lon0, _, _ = projection
            for zero in (n(0), n(0, 5), f.minus(n(1, 3), n(1, 3))):
                found = inverse(projection, zero, zero)
                check_values(self, found, (globe.rad(lat0), globe.rad(lon0)))
                self.assertEqual(nearest(projection, zero, zero), (lat0, lon0))

    def test_center_that_is_not_known_exactly(self):
        for name in ("gnomonic", "stereo", "ortho", "disk"):
            projection = (name, 400000000, D, 0, 0)
            check_values(self, inverse(projection, NOTHING, NOTHING), (globe.rad(400000000), globe.rad(D)))
            with self.assertRaises(Undecided):
                inverse((name, LAT, D, 0, 0), NOTHING, NOTHING)

    def test_ends_of_ortho_and_disk(self):
        for name, end in (("ortho", 1), ("disk", 2)):
            for center in ((0, 0), (400000000, D), (LAT, 0), (-LAT, -LON)):
                projection = (name, *center, 0, 0)
                tiny = n(1, 10 ** 40)
                for outside in (f.plus(n(end), tiny), n(3), n(-3), f.times(n(end), TWO_ROOT)):
                    self.nowhere(projection, outside, n(0))
                    self.nowhere(projection, n(0), outside)
                    self.nowhere(projection, n(9, 10), outside)
                inverse(projection, f.minus(n(end), tiny), n(0))
        for center in ((0, 0), (400000000, D), (LAT, 0)):
            self.nowhere(("disk", *center, 0, 0), n(2), n(0))
            self.nowhere(("disk", *center, 0, 0), n(0), n(-2))
            lat, lon = inverse(("ortho", *center, 0, 0), n(-1), n(0))
            quarter = decimals.pi() / 2
            check_values(self, (lat, lon), (Decimal(0), globe.rad(center[1]) - quarter))

    def conic(self, projection, x, y):
        """The place as the document writes it."""
        sign = 1 if projection[3] + projection[4] > 0 else -1
        many = globe.cone_number(projection)
        north = globe.cone_radius(projection, projection[1]) - y
        r = sign * (x * x + north * north).sqrt()
        d = globe.atan2(sign * x, sign * north) / many
        lat1 = projection[3]
        if projection[0] == "albers":
            constant = globe.cos(lat1) ** 2 + 2 * many * globe.sin(lat1)
            sine = (constant - r * r * many * many) / (2 * many)
            return (decimals.arcsine(sine) if abs(sine) <= 1 else None), d
        w = globe.artanh(globe.sin(lat1)) - (r * many / globe.cos(lat1)).ln() / many
        return 2 * decimals.arctan(w.exp()) - decimals.pi() / 2, d

    def test_conic(self):
        found = 0
        for projection in maps.CONIC:
            for x, y in (((1, 5), (1, 7)), ((-1, 3), (1, 3)), ((1, 10 ** 9), (-1, 4)), ((-2, 3), (-7, 10)), ((0, 1), (1, 5)),
                         ((1, 2), (3, 1)), ((-1, 1), (-2, 1)), ((0, 1), (0, 1))):
                with self.subTest(projection=projection, x=x, y=y):
                    lat, d = self.conic(projection, decimals.exactly(*x), decimals.exactly(*y))
                    if lat is None or abs(d) > decimals.pi():
                        self.nowhere(projection, n(*x), n(*y))
                    else:
                        found += 1
                        value = (lat, globe.rad(projection[2]) + d)
                        check_values(self, inverse(projection, n(*x), n(*y)), value, (8, 60))
        self.assertGreater(found, 50)

    def test_behind_the_tip(self):
        """Straight behind the tip of a cone, where the angle z is pi, there is no place."""
        for projection in maps.CONIC:
            radius = globe.cone_radius(projection, projection[1])
            self.nowhere(projection, n(0), n(int(3 * radius) + (3 if radius > 0 else -3)))

    def test_beyond_the_curves(self):
        """Beyond the two curves of `albers` that are the poles."""
        for projection in maps.CONIC:
            if projection[0] == "albers":
                radius = globe.cone_radius(projection, projection[1])
                tiny = Decimal(10) ** -30
                for lat, further in ((LAT, -1), (-LAT, 1)):
                    end = radius - globe.cone_radius(projection, lat)
                    inside = inverse(projection, n(0), written(end + further * tiny))
                    self.assertEqual(len(inside), 2)
                    self.nowhere(projection, n(0), written(end - further * tiny))
                self.nowhere(projection, n(1000), n(0))
                self.nowhere(projection, n(0), n(1000))

    def test_on_the_curves(self):
        """On a curve that is a pole the arcsine is one of 1 or -1, which is not known exactly."""
        for projection in maps.CONIC:
            if projection[0] == "albers":
                for lat in (LAT, -LAT):
                    point = (lat, globe.turned(projection[2] + D))
                    with self.assertRaises(Undecided):
                        inverse(projection, *forward(projection, point))
                    # Further than half a turn there is certainly no place.
                    angle = n(99, 100)
                    radius = cone_radius(projection, lat)
                    x = f.times(radius, f.applied("sine", f.times(angle, PI)))
                    y = f.minus(cone_radius(projection, projection[1]),
                                f.times(radius, f.applied("cosine", f.times(angle, PI))))
                    if abs(globe.cone_number(projection)) < Decimal("0.98"):
                        self.nowhere(projection, x, y)

    def test_beyond_half_a_turn(self):
        """Half of a unit of angle further than half a turn, on both sides."""
        small = globe.rad(1) / 2
        for projection in maps.CONIC:
            for lat in (0, 50 * D, -50 * D):
                radius = globe.cone_radius(projection, projection[1])
                here = globe.cone_radius(projection, lat)
                for d in (decimals.pi() + small, -decimals.pi() - small):
                    angle = globe.cone_number(projection) * d
                    x, y = written(here * decimals.sine(angle)), written(radius - here * decimals.cosine(angle))
                    self.nowhere(projection, x, y)
                angle = globe.cone_number(projection) * (decimals.pi() - small)
                x, y = written(here * decimals.sine(angle)), written(radius - here * decimals.cosine(angle))
                check_value(self, inverse(projection, x, y)[0], globe.rad(lat), (8, 20))

    def test_tip(self):
        """The tip of a cone is no place, even if it is met exactly."""
        for projection in maps.CONIC:
            # The tip lies at R(a).
            self.nowhere(projection, n(0), cone_radius(projection, projection[1]))

    def test_far_away_on_a_cone(self):
        """Where e would be raised to a power beyond 64."""
        for projection in (("cone", 0, 0, 0, D), ("cone", 0, 0, -D, 0)):
            for p, q in ((-10000, 1), (10000, 1), (-10 ** 60, 1), (10 ** 60, 1)):
                lat, d = self.conic(projection, Decimal(0), decimals.exactly(p, q))
                if abs(d) > decimals.pi():
                    self.nowhere(projection, n(0), n(p, q))
                else:
                    check_values(self, inverse(projection, n(0), n(p, q)), (lat, d), (8, 60, 160), True)
                    self.assertEqual(nearest(projection, n(0), n(p, q)), (LAT if p > 0 else -LAT, 0))

    def test_time(self):
        start = time.monotonic()
        for projection in maps.ALL:
            x, y = forward(projection, (projection[1] // 2 + 1, projection[2]))
            for formula in inverse(projection, x, y):
                enclose(formula, 160)
        self.assertLess(time.monotonic() - start, 5)


def written(value):
    """The number whose decimals are those of a value."""
    return n(int(value * 10 ** 60), 10 ** 60)


class Angles(unittest.TestCase):
    """Point 9.3."""

    def test_quarters(self):
        for p in (5, 1, -1, -5):
            for q in (3, 1, -1, -3):
                value = globe.atan2(Decimal(p), Decimal(q))
                check_value(self, angle_of(n(p), n(q)), value, with_paper=True)
                two = Decimal(2).sqrt()
                found = angle_of(f.times(n(p), TWO_ROOT), f.plus(n(q), NOTHING))
                check_value(self, found, globe.atan2(p * two, Decimal(q)), with_paper=True)

    def test_half_axes(self):
        pi = decimals.pi()
        for factor in (n(1), n(3, 7), n(10 ** 30), n(1, 10 ** 30), TWO_ROOT, PI):
            for sign, x, y, value in ((1, 1, 0, 0), (1, 0, 1, pi / 2), (1, 0, -1, -pi / 2), (1, -1, 0, pi)):
                across = f.times(n(x), factor) if x else n(0)
                up = f.times(n(y), factor) if y else n(0)
                check_value(self, angle_of(up, across), Decimal(value), with_paper=True)

    def test_zero_that_is_not_known_exactly(self):
        pi = decimals.pi()
        check_value(self, angle_of(NOTHING, n(1)), Decimal(0))
        check_value(self, angle_of(NOTHING, TWO_ROOT), Decimal(0))
        check_value(self, angle_of(n(2), NOTHING), pi / 2)
        check_value(self, angle_of(n(-2), NOTHING), -pi / 2)
        check_value(self, angle_of(f.minus(n(1, 3), n(1, 3)), n(-2)), pi)
        check_value(self, angle_of(n(0), f.times(n(-2), TWO_ROOT)), pi)
        for y, x in ((NOTHING, n(-1)), (NOTHING, n(0)), (n(0), NOTHING), (NOTHING, NOTHING)):
            with self.assertRaises(Undecided):
                angle_of(y, x)

    def test_undefined(self):
        for zero in (n(0), n(0, 7), f.minus(n(1, 3), n(1, 3)), f.times(n(0), n(5))):
            with self.assertRaises(Undefined):
                angle_of(zero, n(0))
            with self.assertRaises(Undefined):
                angle_of(n(0), zero)

    def test_near_the_axes(self):
        chance = random.Random(1)
        for _ in range(20):
            tiny = Decimal(1) / 10 ** 25
            p, q = chance.choice([1, -1]), chance.choice([1, -1])
            check_value(self, angle_of(n(p, 10 ** 25), n(q)), globe.atan2(p * tiny, Decimal(q)))
            check_value(self, angle_of(n(p), n(q, 10 ** 25)), globe.atan2(Decimal(p), q * tiny))


class Nearest(unittest.TestCase):
    """Point 9.4."""

    def test_rounding(self):
        unit = f.over(PI, n(LON))
        projection = ("plate", 0, 0, 0, 0)
        for p, q, angle in ((0, 1, 0), (49, 100, 0), (51, 100, 1), (-49, 100, 0), (-51, 100, -1), (7, 1, 7), (-15, 10, None),
                            (1, 2, None), (10 ** 40 + 1, 2 * 10 ** 40, 1), (10 ** 40 - 1, 2 * 10 ** 40, 0)):
            x = f.times(n(p, q), unit)
            for coordinates, point in (((x, n(0)), (0, angle)), ((n(0), x), (angle, 0))):
                if angle is None:
                    with self.assertRaises(Undecided):
                        nearest(projection, *coordinates)
                else:
                    self.assertEqual(nearest(projection, *coordinates), point)

    def test_wrapped(self):
        for lon0 in (-LON, 170 * D, 0):
            projection = ("mercator", 0, lon0, 0, 0)
            for d in (20 * D, -20 * D, 0, 179 * D):
                self.assertEqual(nearest(projection, radians(d), n(0)), (0, globe.turned(lon0 + d)))
        # Just below 180 degrees is nearest to 180 degrees, which is -180.
        x = f.minus(PI, n(1, 10 ** 12))
        self.assertEqual(nearest(("plate", 0, 0, 0, 0), x, n(0)), (0, -LON))

    def test_example(self):
        projection = ("stereo", 100000000, 0, 0, 0)
        x, y = forward(projection, (480000000, 110000000))
        self.assertEqual(nearest(projection, x, y), (480000000, 110000000))

    def test_undefined(self):
        bad = f.applied("log", n(-1))
        for projection in (("plate", 0, 0, 0, 0), ("stereo", 0, 0, 0, 0), ("cone", 0, 0, 0, D)):
            with self.assertRaises(Undefined):
                nearest(projection, bad, n(0))
