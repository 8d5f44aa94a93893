"""portolan.console: points 14.1 and 14.2."""

import random
import time
import unittest
from decimal import Decimal
from fractions import Fraction

from portolan.angletexts import angle_text
from portolan.angletexts import arc_text
from portolan.console import run_console
from portolan.errors import InvalidLine
from portolan.errors import NoPlace
from portolan.errors import PortolanError
from portolan.projections import NAMES
from portolan.projections import forward
from portolan.scales import area_scale
from portolan.sphere import bearing
from portolan.sphere import distance
from portolan.tiles import tile_of

from tests import decimals
from tests import globe
from tests import maps
from tests.maps import LAT
from tests.maps import LON

POINTS = "point a 0 0\npoint b 0 90\npoint c 48.1234567 -11.5\npoint n 90 7\npoint s -90 0\npoint z 0 -180\n"


def in_degrees(value):
    return value * 180 / decimals.pi()


class Console(unittest.TestCase):
    """Point 14.1."""

    def lines(self, text):
        report = run_console(text)
        self.assertIsInstance(report, str)
        if report == "":
            return []
        self.assertTrue(report.endswith("\n"))
        return report[:-1].split("\n")

    def check_number(self, text, value, digits):
        """Two decimals with the digits told, between which the value lies."""
        self.assertRegex(text, r"\A-?[0-9]+(\.[0-9]+)?\.\.-?[0-9]+(\.[0-9]+)?\Z" if digits else r"\A-?[0-9]+\.\.-?[0-9]+\Z")
        low, high = text.split("..")
        for part in (low, high):
            self.assertEqual(len(part.partition(".")[2]), digits)
            self.assertEqual("." in part, digits > 0)
            self.assertFalse(part.startswith("-") and Fraction(part) == 0)
        value = decimals.settled(value)
        self.assertTrue(Fraction(low) <= value <= Fraction(high), (text, value))
        self.assertLessEqual(Fraction(high) - Fraction(low), Fraction(2, 10 ** digits))

    def test_nothing(self):
        for text in ("", "\n", "\n\n\n", "#", "# digits\n", "#x\n\n# distance a b\n", "digits 5", "point a 0 0\n",
                     "projection disk 0 0 0 0\n", POINTS):
            self.assertEqual(run_console(text), "")

    def test_last_line_feed(self):
        for text in ("text a", "text a\n", "\ntext a\n\n", "# a\ntext a\n# b"):
            self.assertEqual(run_console(POINTS + text), "0d00m00.00000s 0d00m00.00000s\n")

    def test_distance_and_bearing(self):
        for digits in (0, 1, 6, 17, 30):
            text = POINTS + f"digits {digits}\n"
            for p, q in (("a", "b"), ("a", "c"), ("c", "b"), ("b", "n"), ("n", "s"), ("a", "a"), ("a", "z")):
                places = {"a": (0, 0), "b": (0, LAT), "c": (481234567, -115000000), "n": (LAT, 7), "s": (-LAT, 0),
                          "z": (0, -LON)}
                found = self.lines(text + f"distance {p} {q}\n")
                value = globe.angle_between(globe.vector(places[p]), globe.vector(places[q])) if p != q else Decimal(0)
                self.assertEqual(len(found), 1)
                self.check_number(found[0], in_degrees(value), digits)
        for p, q, value in (("a", "b", 90), ("b", "a", -90), ("a", "n", 0), ("a", "s", 180), ("c", "s", 180)):
            self.check_number(self.lines(POINTS + f"bearing {p} {q}")[0], Decimal(value), 6)
        self.assertEqual(self.lines(POINTS + "distance a a\ndigits 0\ndistance a a"), ["0.000000..0.000000", "0..0"])

    def test_no_bearing(self):
        for p, q in (("n", "a"), ("s", "n"), ("a", "a"), ("a", "z"), ("n", "n")):
            self.assertEqual(run_console(POINTS + f"bearing {p} {q}\n"), "none\n")

    def test_map_and_scale(self):
        chance = random.Random(3)
        for projection in maps.ALL[::2]:
            for point in ((481234567, -115000000), (chance.randint(-LAT, LAT), chance.randint(-LON, LON - 1)), (LAT, 0)):
                digits = chance.randint(0, 30)
                angles = " ".join(angle_text(angle) for angle in projection[1:])
                text = f"digits {digits}\nprojection {projection[0]} {angles}\n"
                text += f"point p {angle_text(point[0])} {angle_text(point[1])}\nmap p\nscale p\n"
                place, scale = self.lines(text)
                try:
                    forward(projection, point)
                    words = place.split(" ")
                    self.assertEqual(len(words), 2)
                    for word, value in zip(words, globe.coordinates(projection, point)):
                        self.check_number(word, value, digits)
                except NoPlace:
                    self.assertEqual(place, "none")
                try:
                    value = decimals.value_of(area_scale(projection, point))
                    self.check_number(scale, value, digits)
                except PortolanError:
                    self.assertEqual(scale, "none")

    def test_none(self):
        self.assertEqual(self.lines(POINTS + "map n\nscale n\nmap s\nscale s\ntile n 0\ntile s 30\n"), ["none"] * 6)
        self.assertEqual(self.lines(POINTS + "projection gnomonic 0 0 0 0\nmap b\nscale b\nmap z\nscale z\nmap a"),
                         ["none"] * 4 + ["0.000000..0.000000 0.000000..0.000000"])
        self.assertEqual(self.lines(POINTS + "projection stereo 0 0 0 0\nmap z\nscale z\nprojection disk 90 0 0 0\nmap s\nscale s"),
                         ["none"] * 4)
        self.assertEqual(self.lines("point p 86 0\npoint q 85.0511288 5\ntile p 0\ntile q 3\n"), ["none", "none"])
        self.assertEqual(self.lines(POINTS + "projection plate 0 0 0 0\nmap n\nscale n"),
                         [self.lines(POINTS + "projection plate 0 0 0 0\nmap n")[0], "none"])

    def test_tile(self):
        self.assertEqual(run_console("point a 0 0\npoint b 0 90\ntile b 1\ntext b\n"),
                         "1 1 1\n0d00m00.00000s 90d00m00.00000s\n")
        for zoom in range(31):
            for lat, lon in ((0, 0), (481234567, -115000000), (-850511287, LON - 1)):
                text = f"point p {angle_text(lat)} {angle_text(lon)}\ntile p {zoom}\n"
                self.assertEqual(run_console(text), " ".join(map(str, tile_of((lat, lon), zoom))) + "\n")

    def test_text(self):
        for lat, lon in ((0, 0), (481234567, -115000000), (-1, 1), (LAT, -LON), (-LAT, LON - 1)):
            text = f"point p {angle_text(lat)} {angle_text(lon)}\ntext p\n"
            self.assertEqual(run_console(text), f"{arc_text(lat)} {arc_text(lon)}\n")

    def test_kept_things_are_replaced(self):
        text = "point a 1 2\ntext a\npoint a 3 4\ntext a\npoint ab 5 6\ntext a\ntext ab"
        self.assertEqual(self.lines(text), [
            "1d00m00.00000s 2d00m00.00000s", "3d00m00.00000s 4d00m00.00000s", "3d00m00.00000s 4d00m00.00000s",
            "5d00m00.00000s 6d00m00.00000s"])
        text = "digits 2\npoint a 45 90\nmap a\nprojection plate 0 0 0 0\nmap a\nprojection mercator 0 0 0 0\nmap a\ndigits 0\nmap a"
        self.assertEqual(self.lines(text), ["1.57..1.58 0.88..0.89", "1.57..1.58 0.78..0.79", "1.57..1.58 0.88..0.89", "1..2 0..1"])

    def test_first_settings(self):
        place = self.lines("point a 45 90\nmap a")[0]
        self.assertEqual(place, "1.570796..1.570797 0.881373..0.881374")

    def test_nothing_is_kept_between_runs(self):
        run_console("digits 2\npoint a 1 1\nprojection plate 0 0 0 0\n")
        with self.assertRaises(InvalidLine):
            run_console("text a")
        self.assertEqual(run_console("point a 45 90\nmap a\n"), "1.570796..1.570797 0.881373..0.881374\n")

    def test_repeated_commands(self):
        self.assertEqual(run_console(POINTS + "tile a 2\n" * 50), "2 2 2\n" * 50)
        self.assertEqual(run_console(POINTS + "digits 3\n" * 5 + "point a 0 0\n" * 5 + "projection disk 0 0 0 0\n" * 5), "")

    def test_digits(self):
        for digits in range(31):
            found = self.lines(POINTS + f"digits {digits}\ndistance a c\nmap c\nscale c\nbearing c a")
            self.check_number(found[0], in_degrees(decimals.value_of(distance((0, 0), (481234567, -115000000)))), digits)
            x, y = found[1].split(" ")
            self.check_number(x, globe.rad(-115000000), digits)
            self.check_number(y, globe.artanh(globe.sin(481234567)), digits)
            self.check_number(found[2], 1 / (globe.cos(481234567) * globe.cos(481234567)), digits)
            self.check_number(found[3], in_degrees(decimals.value_of(bearing((481234567, -115000000), (0, 0)))), digits)

    def test_names(self):
        for name in ("a", "z", "point", "none", "digits", "abcdefghijkl", "xyzxyzxyzxyz"):
            self.assertEqual(run_console(f"point {name} 1 1\ntile {name} 0\n"), "0 0 0\n")

    def test_every_projection(self):
        for name in NAMES:
            parallels = "20 50" if name in ("albers", "cone") else "0 0"
            found = self.lines(f"point p 30 10\nprojection {name} 0 5 {parallels}\nmap p\nscale p")
            self.assertNotIn("none", found)

    def test_time(self):
        start = time.monotonic()
        run_console(POINTS + "digits 30\n" + "distance a c\nbearing a c\nmap c\nscale c\ntile c 30\ntext c\n" * 50)
        self.assertLess(time.monotonic() - start, 3)


WRONG = [
    "x", "Digits 5", "digit 5", "digits", "digits 5 5", "digits -1", "digits 31", "digits 99", "digits 100", "digits 007",
    "digits 05", "digits 00", "digits x", "digits +5", "digits 5.", "digits 1e1", "digits  5", " digits 5", "digits 5 ",
    "digits\t5", "digits \u0665", "digits \u00b2", "digits 5\r", " ", "  ", "\t", " # remark", "digits 5 # remark",
    "point", "point p", "point p 0", "point p 0 0 0", "point p  0 0", "point  p 0 0", "point p 0 0 ", "point 0 0",
    "point P 0 0", "point p1 0 0", "point p_q 0 0", "point \u00e9 0 0", "point \u03b1 0 0", "point abcdefghijklm 0 0",
    "point p 90.0000001 0", "point p -91 0", "point p 0 180", "point p 0 -180.0000001", "point p 0 360", "point p 91 180",
    "point p 01 0", "point p +1 0", "point p 1. 0", "point p .5 0", "point p 1.00000000 0", "point p 0 1e1", "point p x 0",
    "point p 0 --1", "point p 00 0", "point p 12345 0", "point p 0,5 0", "point p \u0661 0", "point p 1_0 0",
    "projection", "projection mercator", "projection mercator 0 0 0", "projection mercator 0 0 0 0 0",
    "projection Mercator 0 0 0 0", "projection globe 0 0 0 0", "projection mercator 1 0 0 0", "projection mercator 0 180 0 0",
    "projection plate 0 0 81 0", "projection plate 0 0 -1 0", "projection albers 0 0 20 20", "projection albers 0 0 -20 20",
    "projection cone 86 0 20 50", "projection stereo 91 0 0 0", "projection stereo 0 0 1 0", "projection mercator 0 0 0 x",
    "projection mercator 00 0 0 0", "projection mercator 0 0 0 0 ", "projection  mercator 0 0 0 0",
    "distance a", "distance a b a", "distance a x", "distance x a", "distance A b", "distance", "distance a  b", "distance a b ",
    "bearing a", "bearing a x", "bearing x b", "bearing", "bearing a b b",
    "map", "map x", "map a b", "map 0 0", "map  a", "scale", "scale x", "scale a b", "scale a ",
    "tile", "tile a", "tile a 31", "tile a -1", "tile a 01", "tile a 100", "tile a x", "tile x 5", "tile a 5 5", "tile a 1.0",
    "tile a  5", "text", "text x", "text a b", "text abcdefghijklmn", "point\u00a0p 0 0", "text a\x0b", "run", "quit",
    # Wrong words are told before it is asked whether there is a result.
    "tile n 31", "tile s x", "bearing n x", "bearing x n", "map n n", "scale n n",
]


class Lines(unittest.TestCase):
    """Point 14.2."""

    def check(self, text, line):
        with self.subTest(text=text):
            with self.assertRaises(InvalidLine) as caught:
                run_console(text)
            self.assertEqual(caught.exception.line, line)
            self.assertIs(type(caught.exception.line), int)

    def test_wrong_lines(self):
        for wrong in WRONG:
            self.check(POINTS + wrong, 7)
            self.check(POINTS + wrong + "\ndigits 3\n", 7)
            self.check(wrong, 1)
            self.check(f"\n# remark\n\n{POINTS}\n# {wrong}\n{wrong}\n", 12)

    def test_first_one_is_told(self):
        self.check(POINTS + "map a\nmap x\nnonsense\n", 8)
        self.check("\n\nx\ny\nz", 3)
        self.check("point p 91 0\nmap p", 1)
        self.check("map n\npoint n 0 0\nmap n", 1)
        self.check("point a 0 0\nmap a\n\n#\nmap b\npoint b 0 0\n", 5)

    def test_right_lines_before(self):
        self.assertEqual(run_console(POINTS + "map n\n"), "none\n")
        self.check(POINTS + "map n\nbearing n n\ntile s 5\nmap m\n", 10)

    def test_refused_points_are_not_kept(self):
        self.check("point p 0 0\npoint p 91 0\ntext p", 2)

    def test_no_other_error(self):
        chance = random.Random(9)
        words = ["digits", "point", "projection", "distance", "bearing", "map", "scale", "tile", "text", "a", "b", "n", "0",
                 "90", "-90", "5", "30", "31", "180", "-180", "mercator", "stereo", "gnomonic", "disk", "#", "", "48.5", "x1"]
        for _ in range(3000):
            count = chance.randint(1, 6)
            line = " ".join(chance.choice(words) for _ in range(count))
            try:
                report = run_console(POINTS + line + "\n")
            except InvalidLine as error:
                self.assertEqual(error.line, 7)
            else:
                self.assertLessEqual(report.count("\n"), 1)
