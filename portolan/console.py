"""A console: a text with one command in each line, and the report of their results."""

from portolan.angletexts import arc_text
from portolan.angletexts import has_digits
from portolan.angletexts import read_angle
from portolan.angletexts import read_point
from portolan.enclosures import decimal_text
from portolan.errors import InvalidLine
from portolan.errors import InvalidText
from portolan.errors import PortolanError
from portolan.points import degrees
from portolan.projections import forward
from portolan.projections import is_projection
from portolan.scales import area_scale
from portolan.sphere import bearing
from portolan.sphere import distance
from portolan.tiles import tile_of
from portolan.values import enclose

BITS = 128
FIRST_DIGITS = 6
FIRST_PROJECTION = ("mercator", 0, 0, 0, 0)
# The greatest number of digits, and the greatest zoom.
GREATEST_COUNT = 30
LONGEST_NAME = 12


class Desk:
    """What is kept from line to line."""

    def __init__(self):
        self.digits = FIRST_DIGITS
        self.points = {}
        self.projection = FIRST_PROJECTION


def keep_digits(desk, words):
    """Keep the number of digits of results."""
    desk.digits = read_count(words[0])


def keep_point(desk, words):
    """Keep a point under a name."""
    name, lat, lon = words
    if not is_name(name):
        raise InvalidText("this is no name")
    desk.points[name] = read_point(f"{lat} {lon}")


def keep_projection(desk, words):
    """Keep a projection."""
    projection = (words[0], *[read_angle(word) for word in words[1:]])
    if not is_projection(projection):
        raise InvalidText("these are not the values of a projection")
    desk.projection = projection


def report_distance(desk, words):
    """Return the distance of two points in degrees."""
    p, q = [kept_point(desk, word) for word in words]
    return number_text(desk, degrees(distance(p, q)))


def report_bearing(desk, words):
    """Return the bearing from one point to another in degrees."""
    p, q = [kept_point(desk, word) for word in words]
    return number_text(desk, degrees(bearing(p, q)))


def report_place(desk, words):
    """Return the coordinates of a point on the map."""
    x, y = forward(desk.projection, kept_point(desk, words[0]))
    return f"{number_text(desk, x)} {number_text(desk, y)}"


def report_scale(desk, words):
    """Return the area scale of the map at a point."""
    return number_text(desk, area_scale(desk.projection, kept_point(desk, words[0])))


def report_tile(desk, words):
    """Return the tile of a point."""
    point = kept_point(desk, words[0])
    zoom, column, row = tile_of(point, read_count(words[1]))
    return f"{zoom} {column} {row}"


def report_text(desk, words):
    """Return the latitude and the longitude of a point in degrees, minutes and seconds."""
    lat, lon = kept_point(desk, words[0])
    return f"{arc_text(lat)} {arc_text(lon)}"


ACTIONS = {
    "digits": keep_digits,
    "point": keep_point,
    "projection": keep_projection,
    "distance": report_distance,
    "bearing": report_bearing,
    "map": report_place,
    "scale": report_scale,
    "tile": report_tile,
    "text": report_text,
}
# How many words stand behind each command.
COUNTS = {
    "digits": 1,
    "point": 3,
    "projection": 5,
    "distance": 2,
    "bearing": 2,
    "map": 1,
    "scale": 1,
    "tile": 2,
    "text": 1,
}


def run_console(text):
    """Return the report of a text with one command in each line."""
    desk = Desk()
    report = []
    # Behind a last line feed there is one empty line more, which is skipped like the others.
    for place, line in enumerate(text.split("\n")):
        try:
            answer = executed(desk, line)
        except InvalidText:
            raise InvalidLine(place + 1) from None
        if answer is not None:
            report.append(f"{answer}\n")
    return "".join(report)


def executed(desk, line):
    """Return what a line reports, or None; it raises InvalidText if the line is not a command."""
    if line == "" or line.startswith("#"):
        return None
    words = line.split(" ")
    if words[0] not in COUNTS or len(words) != COUNTS[words[0]] + 1:
        raise InvalidText("these are not the words of a command")
    action = ACTIONS[words[0]]
    try:
        return action(desk, words[1:])
    except InvalidText:
        raise
    except PortolanError:
        return "none"


def is_name(word):
    """Return True if a word may be the name of a point."""
    return len(word) <= LONGEST_NAME and word.isascii() and word.isalpha() and word.islower()


def read_count(word):
    """Return the number of digits, or the zoom, that a word tells."""
    if not has_digits(word, 2) or (word.startswith("0") and word != "0") or int(word) > GREATEST_COUNT:
        raise InvalidText("this is no number from 0 to 30")
    return int(word)


def kept_point(desk, word):
    """Return the point that is kept under a name."""
    if word not in desk.points:
        raise InvalidText("there is no such point")
    return desk.points[word]


def number_text(desk, formula):
    """Return the text of the value of a formula."""
    return decimal_text(enclose(formula, BITS), BITS, desk.digits)
