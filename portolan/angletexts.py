"""Texts of angles and of points."""

from portolan.enclosures import digits_of
from portolan.errors import InvalidText
from portolan.points import DEGREE
from portolan.points import is_point

PLACES = 7
MOST_WHOLE_DIGITS = 4
# A unit of angle is 0.00036 seconds, so seconds with five places are never rounded.
PARTS_OF_UNIT = 36
PARTS_OF_SECOND = 100000


def angle_text(angle):
    """Return the text of an angle: degrees in decimal form."""
    whole, rest = divmod(abs(angle), DEGREE)
    text = sign_text(angle) + digits_of(whole)
    if rest == 0:
        return text
    places = str(rest).zfill(PLACES).rstrip("0")
    return f"{text}.{places}"


def read_angle(text):
    """Return the angle of a text."""
    digits = text[1:] if text.startswith("-") else text
    whole, point, places = digits.partition(".")
    if not has_digits(whole, MOST_WHOLE_DIGITS) or (whole.startswith("0") and whole != "0"):
        raise InvalidText("these are no whole degrees")
    if point == "." and not has_digits(places, PLACES):
        raise InvalidText("this is no part of a degree")
    angle = int(whole) * DEGREE + int(places.ljust(PLACES, "0"))
    return -angle if text.startswith("-") else angle


def point_text(point):
    """Return the text of a point: its latitude and its longitude."""
    return f"{angle_text(point[0])} {angle_text(point[1])}"


def read_point(text):
    """Return the point of a text."""
    words = text.split(" ")
    if len(words) != 2:
        raise InvalidText("a point has two angles with one space between them")
    point = (read_angle(words[0]), read_angle(words[1]))
    if not is_point(point):
        raise InvalidText("an angle of the point is out of range")
    return point


def arc_text(angle):
    """Return the text of an angle in degrees, minutes and seconds."""
    seconds, parts = divmod(abs(angle) * PARTS_OF_UNIT, PARTS_OF_SECOND)
    minutes, seconds = divmod(seconds, 60)
    whole, minutes = divmod(minutes, 60)
    return f"{sign_text(angle)}{digits_of(whole)}d{minutes:02d}m{seconds:02d}.{parts:05d}s"


def sign_text(n):
    """Return the sign of a negative number, and otherwise nothing."""
    return "-" if n < 0 else ""


def has_digits(text, most):
    """Return True if a text consists of one to `most` digits."""
    return 1 <= len(text) <= most and text.isascii() and text.isdigit()
