"""portolan.tiles: points 11.1 to 11.7."""

import math
import random
import time
import unittest
from fractions import Fraction

from portolan import formulas as f
from portolan.errors import InvalidPoint
from portolan.errors import InvalidText
from portolan.errors import NoPlace
from portolan.errors import NoTile
from portolan.errors import TooMany
from portolan.points import is_point
from portolan.tiles import ancestor
from portolan.tiles import children
from portolan.tiles import cover
from portolan.tiles import is_tile
from portolan.tiles import key_of
from portolan.tiles import meridians
from portolan.tiles import neighbor
from portolan.tiles import parallels
from portolan.tiles import parent
from portolan.tiles import tile_area
from portolan.tiles import tile_of
from portolan.tiles import tile_with
from portolan.values import enclose

from tests import decimals
from tests import globe
from tests import maps
from tests.checks import check_value
from tests.checks import check_values
from tests.maps import D
from tests.maps import LAT
from tests.maps import LON

# The greatest latitude on the map: 85.05112877.. degrees.
HIGHEST = 850511287
ZOOMS = range(31)


def random_tiles(seed, many):
    chance = random.Random(seed)
    found = []
    for _ in range(many):
        zoom = chance.randint(0, 30)
        found.append((zoom, chance.randrange(2 ** zoom), chance.randrange(2 ** zoom)))
    return found


TILES = [(0, 0, 0), (1, 0, 0), (1, 1, 1), (2, 3, 0), (3, 5, 3), (30, 0, 0), (30, 2 ** 30 - 1, 2 ** 30 - 1),
         (30, 2 ** 29, 2 ** 29), (30, 2 ** 29 - 1, 2 ** 29 - 1)] + random_tiles(1, 30)


def side_latitude(zoom, row):
    """The latitude in radians at which a row begins."""
    y = decimals.pi() * decimals.exactly(2 ** zoom - 2 * row, 2 ** zoom)
    return decimals.arctan((y.exp() - (-y).exp()) / 2)


def row_value(lat, zoom):
    """The row of a latitude, or None, from the formula of the document."""
    if abs(lat) == LAT:
        return None
    y = globe.artanh(globe.sin(lat))
    if lat == 0:
        depth = Fraction(2 ** zoom, 2)
    else:
        depth = (1 - y / decimals.pi()) / 2 * 2 ** zoom
    row = math.floor(depth)
    return row if 0 <= row < 2 ** zoom else None


def tile_value(point, zoom):
    row = row_value(point[0], zoom)
    if row is None:
        return None
    return zoom, math.floor((Fraction(point[1], LON) + 1) / 2 * 2 ** zoom), row


class Tiles(unittest.TestCase):
    """Points 11.1 and 11.2."""

    def test_is_tile(self):
        for zoom in ZOOMS:
            last = 2 ** zoom - 1
            for column in (0, last, last // 2):
                for row in (0, last, last // 3):
                    self.assertIs(is_tile((zoom, column, row)), True)
            for column, row in ((-1, 0), (0, -1), (last + 1, 0), (0, last + 1), (last + 1, last + 1), (-1, -1)):
                self.assertIs(is_tile((zoom, column, row)), False)
        for zoom in (-1, 31, -5, 1000, -(10 ** 30), 10 ** 30):
            self.assertIs(is_tile((zoom, 0, 0)), False)

    def check(self, point, zoom):
        with self.subTest(point=point, zoom=zoom):
            wanted = tile_value(point, zoom)
            if wanted is None:
                with self.assertRaises(NoPlace):
                    tile_of(point, zoom)
            else:
                found = tile_of(point, zoom)
                self.assertEqual(found, wanted)
                self.assertIsInstance(found, tuple)
                self.assertIs(is_tile(found), True)

    def test_points(self):
        for zoom in (0, 1, 2, 5, 13, 29, 30):
            for point in maps.POINTS + maps.random_points(zoom, 20):
                self.check(point, zoom)

    def test_equator(self):
        for zoom in ZOOMS:
            self.assertEqual(tile_of((0, 0), zoom), (zoom, 2 ** zoom // 2, 2 ** zoom // 2))
            for lat in (-1, 0, 1):
                for lon in (-LON, -LON + 1, -1, 0, 1, LAT, LON - 1):
                    self.check((lat, lon), zoom)

    def test_ends_of_the_map(self):
        for zoom in ZOOMS:
            for lat in (HIGHEST, HIGHEST - 1, HIGHEST + 1, 851 * 10 ** 6, 850 * 10 ** 6, LAT - 1, LAT):
                for sign in (1, -1):
                    self.check((sign * lat, 5), zoom)
            if zoom < 20:
                self.assertEqual(tile_of((HIGHEST, -LON), zoom), (zoom, 0, 0))
                self.assertEqual(tile_of((-HIGHEST, LON - 1), zoom), (zoom, 2 ** zoom - 1, 2 ** zoom - 1))
            for lat in (HIGHEST + 1, -HIGHEST - 1, LAT, -LAT):
                with self.assertRaises(NoPlace):
                    tile_of((lat, 0), zoom)

    def test_near_to_sides(self):
        chance = random.Random(5)
        for zoom in (1, 2, 3, 7, 12, 17, 23, 30):
            for _ in range(4):
                column = chance.randrange(2 ** zoom)
                row = chance.randrange(1, 2 ** zoom)
                lon = -LON + -(-column * 2 * LON // 2 ** zoom)
                lat = math.floor(side_latitude(zoom, row) * LON / decimals.pi())
                for dlat in (0, 1):
                    for dlon in (0, -1, 1):
                        point = (lat + dlat, globe.turned(lon + dlon))
                        if is_point(point):
                            self.check(point, zoom)
                self.assertIn(tile_of((lat, 0), zoom)[2], (row, row + 1, row + 2, row + 3))
                self.assertLess(tile_of((lat + 1, 0), zoom)[2], row)

    def test_time(self):
        start = time.monotonic()
        for k in range(50):
            tile_of((HIGHEST - k, k), 30)
        self.assertLess(time.monotonic() - start, 1)


class Sides(unittest.TestCase):
    """Point 11.3."""

    def test_meridians(self):
        self.assertEqual(meridians((0, 0, 0)), ((-180, 1), (180, 1)))
        self.assertEqual(meridians((1, 1, 0)), ((0, 1), (180, 1)))
        self.assertEqual(meridians((3, 1, 0)), ((-135, 1), (-90, 1)))
        self.assertEqual(meridians((4, 0, 0)), ((-180, 1), (-315, 2)))
        for zoom, column, row in TILES:
            found = meridians((zoom, column, row))
            self.assertIsInstance(found, tuple)
            for (p, q), place in zip(found, (column, column + 1)):
                self.assertGreaterEqual(q, 1)
                self.assertEqual(math.gcd(p, q), 1)
                self.assertEqual(Fraction(p, q), Fraction(360 * place, 2 ** zoom) - 180)

    def test_parallels(self):
        for tile in TILES:
            zoom, _, row = tile
            values = side_latitude(zoom, row + 1), side_latitude(zoom, row)
            with self.subTest(tile=tile):
                check_values(self, parallels(tile), values, (8, 60, 100), True)

    def test_all_zooms(self):
        for zoom in ZOOMS:
            for row in sorted({0, 2 ** zoom - 1, 2 ** zoom // 2, 2 ** zoom // 3}):
                values = side_latitude(zoom, row + 1), side_latitude(zoom, row)
                check_values(self, parallels((zoom, 0, row)), values, (8, 60))

    def test_all_bits(self):
        check_values(self, parallels((5, 3, 11)), (side_latitude(5, 12), side_latitude(5, 11)), range(8, 101))

    def test_equator(self):
        self.assertEqual(enclose(parallels((1, 0, 0))[0], 160), (0, 0))
        self.assertEqual(enclose(parallels((30, 0, 2 ** 29))[1], 160), (0, 0))

    def test_neighbors(self):
        for tile in TILES:
            zoom, column, row = tile
            if row + 1 < 2 ** zoom:
                below = neighbor(tile, 0, 1)
                self.assertEqual(parallels(tile)[0], parallels(below)[1])
                self.assertEqual(meridians(tile), meridians(below))
            if column + 1 < 2 ** zoom:
                beside = neighbor(tile, 1, 0)
                self.assertEqual(meridians(tile)[1], meridians(beside)[0])
                self.assertEqual(parallels(tile), parallels(beside))
            if zoom < 30:
                northwest, northeast, southwest, southeast = children(tile)
                self.assertEqual((meridians(northwest)[0], meridians(southeast)[1]), meridians(tile))
                self.assertEqual((parallels(southwest)[0], parallels(northeast)[1]), parallels(tile))

    def test_sides_and_points(self):
        """Each point lies between the sides of its tile."""
        for point in maps.random_points(9, 20):
            for zoom in (0, 3, 11, 22):
                if abs(point[0]) <= HIGHEST:
                    tile = tile_of(point, zoom)
                    west, east = meridians(tile)
                    self.assertTrue(Fraction(*west) <= Fraction(point[1], D) < Fraction(*east))
                    south, north = [enclose(formula, 60) for formula in parallels(tile)]
                    self.assertLessEqual(south[0], globe.rad(point[0]) * 2 ** 60)
                    self.assertGreaterEqual(north[1], globe.rad(point[0]) * 2 ** 60)


class Family(unittest.TestCase):
    """Point 11.4."""

    def test_parent_and_children(self):
        for tile in TILES:
            zoom, column, row = tile
            if zoom < 30:
                found = children(tile)
                self.assertEqual(found, sorted(found, key=lambda child: (child[2], child[1])))
                self.assertEqual(len(set(found)), 4)
                for child in found:
                    self.assertIs(is_tile(child), True)
                    self.assertEqual(parent(child), tile)
            if zoom > 0:
                self.assertEqual(parent(tile), (zoom - 1, column // 2, row // 2))
                self.assertIn(tile, children(parent(tile)))
        self.assertEqual(children((1, 0, 1)), [(2, 0, 2), (2, 1, 2), (2, 0, 3), (2, 1, 3)])

    def test_ends(self):
        with self.assertRaises(NoTile):
            parent((0, 0, 0))
        for column, row in ((0, 0), (2 ** 30 - 1, 2 ** 30 - 1), (77, 12345)):
            with self.assertRaises(NoTile):
                children((30, column, row))
        self.assertEqual(len(children((29, 5, 5))), 4)
        self.assertEqual(parent((1, 1, 0)), (0, 0, 0))

    def test_new_lists(self):
        children((3, 1, 1)).clear()
        self.assertEqual(len(children((3, 1, 1))), 4)

    def test_neighbor(self):
        for tile in TILES:
            zoom, column, row = tile
            size = 2 ** zoom
            self.assertEqual(neighbor(tile, 0, 0), tile)
            for right in (1, -1, 5, size, -size, 3 * size + 2, -7 * size - 3, 10 ** 20):
                self.assertEqual(neighbor(tile, right, 0), (zoom, (column + right) % size, row))
            self.assertEqual(neighbor(tile, 2, -row), (zoom, (column + 2) % size, 0))
            self.assertEqual(neighbor(tile, -2, size - 1 - row), (zoom, (column - 2) % size, size - 1))
            for down in (-row - 1, size - row, -row - size, 10 ** 20, -10 ** 20):
                for right in (0, 1):
                    with self.assertRaises(NoTile):
                        neighbor(tile, right, down)
        self.assertEqual(neighbor((2, 3, 1), 1, 1), (2, 0, 2))
        self.assertEqual(neighbor((2, 0, 1), -1, -1), (2, 3, 0))

    def ancestors(self, tile):
        found = [tile]
        while found[-1][0] > 0:
            found.append(parent(found[-1]))
        return found

    def test_ancestor(self):
        chance = random.Random(8)
        for tile in TILES:
            self.assertEqual(ancestor(tile, tile), tile)
            for above in self.ancestors(tile):
                self.assertEqual(ancestor(tile, above), above)
                self.assertEqual(ancestor(above, tile), above)
            for other in random_tiles(chance.randrange(1000), 10):
                wanted = [above for above in self.ancestors(tile) if above in self.ancestors(other)][0]
                self.assertEqual(ancestor(tile, other), wanted)
                self.assertEqual(ancestor(other, tile), wanted)
        self.assertEqual(ancestor((30, 2 ** 29, 0), (30, 2 ** 29 - 1, 0)), (0, 0, 0))
        self.assertEqual(ancestor((3, 4, 4), (2, 3, 3)), (1, 1, 1))


class Keys(unittest.TestCase):
    """Point 11.5."""

    def test_keys(self):
        self.assertEqual(key_of((0, 0, 0)), "")
        self.assertEqual(tile_with(""), (0, 0, 0))
        self.assertEqual(key_of((3, 5, 3)), "123")
        self.assertEqual(key_of((2, 0, 1)), "02")
        self.assertEqual(tile_with("213"), (3, 3, 5))
        self.assertEqual(tile_with("3" * 30), (30, 2 ** 30 - 1, 2 ** 30 - 1))
        self.assertEqual(tile_with("0" * 30), (30, 0, 0))

    def test_there_and_back(self):
        for tile in TILES:
            key = key_of(tile)
            self.assertEqual(len(key), tile[0])
            self.assertEqual(tile_with(key), tile)
            if tile[0] > 0:
                self.assertEqual(key_of(parent(tile)), key[:-1])
            for digit, child in zip("0123", children(tile) if tile[0] < 30 else []):
                self.assertEqual(key_of(child), key + digit)

    def test_wrong_texts(self):
        for key in ("0" * 31, "3" * 31, "4", "9", "a", "01 2", " ", "0\n", "-1", "+1", "0.1", "01204", "1_0", "\u0661",
                    "\uff11", "\u00b2", "\u00b9", "0\u00e9", "\U0001d7d9", "\u0967", "1,2", "\x00", "01230123" * 8):
            with self.subTest(key=key):
                with self.assertRaises(InvalidText):
                    tile_with(key)


class Cover(unittest.TestCase):
    """Point 11.6."""

    def check(self, south, north, west, east, zoom):
        first = tile_value((north, west), zoom)
        last = tile_value((south, east), zoom)
        wanted = [(zoom, column, row) for row in range(first[2], last[2] + 1)
                  for column in range(first[1], last[1] + 1)]
        with self.subTest(box=(south, north, west, east), zoom=zoom):
            if len(wanted) > 4096:
                with self.assertRaises(TooMany):
                    cover(south, north, west, east, zoom)
            else:
                found = cover(south, north, west, east, zoom)
                self.assertIsInstance(found, list)
                self.assertEqual(found, wanted)
        return len(wanted)

    def test_boxes(self):
        for zoom in range(8):
            self.check(-HIGHEST, HIGHEST, -LON, LON - 1, zoom)
            self.check(-10 * D, 33 * D, -50 * D, 70 * D, zoom)
            self.check(0, 0, -LON, LON - 1, zoom)
        chance = random.Random(12)
        for _ in range(60):
            lat, lon = chance.randint(-84 * D, 84 * D), chance.randint(-LON, 170 * D)
            reach = chance.choice([1, 1000, 10 ** 6, 10 ** 7])
            self.check(lat, lat + chance.randint(0, reach), lon, lon + chance.randint(0, reach), chance.randint(0, 16))

    def test_points_and_lines(self):
        for zoom in (0, 1, 9, 30):
            for lat, lon in ((0, 0), (HIGHEST, -LON), (-HIGHEST, LON - 1), (123456789, 987654321)):
                self.assertEqual(cover(lat, lat, lon, lon, zoom), [tile_of((lat, lon), zoom)])
        self.check(5, 5, -1, 1, 12)
        self.check(-1, 1, 5, 5, 12)
        self.assertEqual(cover(-1, 1, -1, 1, 2), [(2, 1, 1), (2, 2, 1), (2, 1, 2), (2, 2, 2)])

    def test_one_tile(self):
        for tile in ((5, 7, 9), (10, 3, 700), (3, 7, 6)):
            south, north = [math.floor(side_latitude(tile[0], tile[2] + k) * LON / decimals.pi()) for k in (1, 0)]
            west, east = [Fraction(p, q) * D for p, q in meridians(tile)]
            box = (south + 1, north, math.ceil(west), math.ceil(east) - 1)
            self.assertEqual(cover(*box, tile[0]), [tile])
            grown = cover(box[0] - 1, box[1] + 1, max(box[2] - 1, -LON), min(box[3] + 1, LON - 1), tile[0])
            self.assertIn(tile, grown)
            self.assertGreaterEqual(len(grown), 4)

    def test_number(self):
        everything = (-HIGHEST, HIGHEST, -LON, LON - 1)
        self.assertEqual(self.check(*everything, 6), 4096)
        for zoom in (7, 8, 20, 30):
            with self.assertRaises(TooMany):
                cover(*everything, zoom)
        # 4096 columns of one row, and one column more.
        self.assertEqual(self.check(5, 5, -LON, LON - 1, 12), 4096)
        with self.assertRaises(TooMany):
            cover(5, 5, -LON, LON - 1, 13)
        half = 2 * LON // 2 ** 13
        self.assertEqual(self.check(5, 5, -LON, -LON + 4096 * half, 13), 4096)
        self.assertEqual(self.check(5, 5, -LON, -LON + 4096 * half + half, 13), 4097)

    def test_no_boxes(self):
        for box in ((1, 0, 0, 1), (0, 1, 1, 0), (0, LAT + 1, 0, 1), (-LAT - 1, 0, 0, 1), (0, 1, -LON - 1, 0), (0, 1, 0, LON),
                    (0, 1, 170 * D, -170 * D), (LAT, -LAT, 0, 0), (LAT, 0, 0, 1), (-LAT, LAT, 5, 4), (-LAT, LAT, 0, LON),
                    (LAT + 1, LAT + 2, 0, 0), (-LAT - 2, -LAT - 1, 0, 0), (-LAT, LAT + 1, 0, 0)):
            for zoom in (0, 30):
                with self.assertRaises(InvalidPoint):
                    cover(*box, zoom)

    def test_no_place(self):
        for south, north in ((0, LAT), (-LAT, 0), (-LAT, LAT), (0, HIGHEST + 1), (-HIGHEST - 1, 0), (LAT, LAT), (-LAT, -LAT),
                             (HIGHEST + 1, LAT - 1), (1 - LAT, LAT - 1)):
            for zoom in (0, 5, 30):
                with self.assertRaises(NoPlace):
                    cover(south, north, -LON, LON - 1, zoom)

    def test_new_lists(self):
        cover(0, 1, 0, 1, 5).clear()
        self.assertEqual(len(cover(0, 1, 0, 1, 5)), 2)

    def test_time(self):
        start = time.monotonic()
        cover(-HIGHEST, HIGHEST, -LON, LON - 1, 6)
        with self.assertRaises(TooMany):
            cover(-HIGHEST, HIGHEST, -LON, LON - 1, 30)
        self.assertLess(time.monotonic() - start, 1)


class Areas(unittest.TestCase):
    """Point 11.7."""

    def value(self, tile):
        zoom, _, row = tile
        north, south = [decimals.sine(side_latitude(zoom, row + k)) for k in (0, 1)]
        return 2 * decimals.pi() / 2 ** zoom * (north - south)

    def test_areas(self):
        for tile in TILES:
            with self.subTest(tile=tile):
                check_value(self, tile_area(tile), self.value(tile), (8, 60, 100, 160), True)
        check_value(self, tile_area((5, 3, 11)), self.value((5, 3, 11)), range(8, 101))

    def test_children(self):
        for tile in TILES:
            if tile[0] < 30:
                total = f.number(0, 1)
                for child in children(tile):
                    total = f.plus(total, tile_area(child))
                low, high = enclose(f.minus(total, tile_area(tile)), 100)
                self.assertTrue(low <= 0 <= high and high - low <= 4)

    def test_rows(self):
        for zoom, column, row in TILES:
            found = enclose(tile_area((zoom, column, row)), 120)
            for other in (0, 2 ** zoom - 1, 2 ** zoom // 2):
                self.assertEqual(enclose(tile_area((zoom, other, row)), 120), found)
