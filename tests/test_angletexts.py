"""portolan.angletexts: points 5.4 to 5.6."""

import random
import unittest
from fractions import Fraction

from portolan.angletexts import angle_text
from portolan.angletexts import arc_text
from portolan.angletexts import point_text
from portolan.angletexts import read_angle
from portolan.angletexts import read_point
from portolan.errors import InvalidText

DEGREE = 10 ** 7
TEXTS = {
    0: "0", DEGREE: "1", -DEGREE: "-1", 1: "0.0000001", -1: "-0.0000001", 15000000: "1.5", -15000000: "-1.5",
    100 * DEGREE: "100", 1234567890: "123.456789", -900000000: "-90", 99999999999: "9999.9999999", 2500000: "0.25",
    -10: "-0.000001", 30000100: "3.00001",
}
WRONG_ANGLES = [
    "", "-", ".", ".5", "5.", "-.5", "-5.", "+1", "01", "00", "-01", "007.5", "12345", "10000", "0.00000001",
    "1.12345678", " 1", "1 ", "1. 5", "1.2.3", "1..2", "1\n", "\n", "1.5\n", "--1", "1-", "1e3", "0x1", "1_0", "1,5",
    "\u0661", "1.\u0665", "\u00b2", "1.\u00b2", "\uff11", "-+1", "a", "1.-5", "1.+5",
]


class Angles(unittest.TestCase):
    """Point 5.4."""

    def test_texts(self):
        for angle, text in TEXTS.items():
            self.assertEqual(angle_text(angle), text)
            self.assertEqual(read_angle(text), angle)

    def test_there_and_back(self):
        chance = random.Random(1)
        for _ in range(500):
            angle = chance.randint(-10 ** chance.randint(1, 11), 10 ** chance.randint(1, 11)) % 10 ** 11
            for n in (angle, -angle):
                text = angle_text(n)
                self.assertEqual(read_angle(text), n)
                self.assertEqual(Fraction(text) * DEGREE, n)
                self.assertFalse("." in text and text.endswith("0"))

    def test_great_angles(self):
        self.assertEqual(angle_text(-(10 ** 5000)), "-1" + "0" * 4993)

    def test_needless_zeros_are_read(self):
        for text, angle in (("-0", 0), ("-0.0", 0), ("0.0", 0), ("0.0000000", 0), ("1.50", 15000000), ("-1.0", -DEGREE),
                            ("1.5000000", 15000000), ("0.1000000", 1000000)):
            self.assertEqual(read_angle(text), angle)

    def test_wrong_texts(self):
        for text in WRONG_ANGLES:
            with self.subTest(text=text):
                with self.assertRaises(InvalidText):
                    read_angle(text)


class Points(unittest.TestCase):
    """Point 5.5."""

    def test_there_and_back(self):
        for lat in (900000000, -900000000, 0, 1, -15000000):
            for lon in (-1800000000, 1799999999, 0, -1, 25000000):
                text = point_text((lat, lon))
                self.assertEqual(text, angle_text(lat) + " " + angle_text(lon))
                self.assertEqual(read_point(text), (lat, lon))

    def test_examples(self):
        self.assertEqual(point_text((-15000000, 1799999999)), "-1.5 179.9999999")
        self.assertEqual(read_point("-0 -180.0"), (0, -1800000000))

    def test_wrong_texts(self):
        for text in ("", " ", "1", "1 ", " 1", "1  2", "1 2 ", " 1 2", "1 2 3", "1\t2", "1 2\n", "90.0000001 0",
                     "-90.0000001 0", "0 180", "0 -180.0000001", "0 180.0", "91 0", "x 1", "1 x", "1,2", "01 2", "1 +2",
                     "1\n2"):
            with self.subTest(text=text):
                with self.assertRaises(InvalidText):
                    read_point(text)


class Arcs(unittest.TestCase):
    """Point 5.6."""

    def test_examples(self):
        for angle, text in (
                (0, "0d00m00.00000s"), (1, "0d00m00.00036s"), (-1, "-0d00m00.00036s"), (DEGREE, "1d00m00.00000s"),
                (15123457, "1d30m44.44452s"), (-15123457, "-1d30m44.44452s"), (900000000, "90d00m00.00000s"),
                (166666, "0d00m59.99976s"), (166667, "0d01m00.00012s"), (9999999, "0d59m59.99964s"),
                (-9999999, "-0d59m59.99964s"), (1799999999, "179d59m59.99964s"), (5000000, "0d30m00.00000s"),
                (-1800000000, "-180d00m00.00000s"), (12345 * DEGREE, "12345d00m00.00000s")):
            self.assertEqual(arc_text(angle), text)

    def test_text_is_the_angle(self):
        """A unit is 0.00036 seconds, so nothing is ever rounded, and only 0 has a text of 0."""
        chance = random.Random(2)
        for _ in range(500):
            angle = chance.randint(-4 * 10 ** 9, 4 * 10 ** 9)
            text = arc_text(angle)
            whole, rest = text.lstrip("-").split("d")
            minutes, seconds = rest.split("m")
            self.assertEqual((len(minutes), len(seconds), seconds[2], seconds[-1]), (2, 9, ".", "s"))
            self.assertLess(int(minutes), 60)
            self.assertLess(Fraction(seconds[:-1]), 60)
            value = int(whole) + Fraction(minutes) / 60 + Fraction(seconds[:-1]) / 3600
            self.assertEqual(value * DEGREE, abs(angle))
            self.assertEqual(text.startswith("-"), angle < 0)
