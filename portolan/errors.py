"""All errors of the package."""


class PortolanError(ValueError):
    """The base class of all errors of the package."""


class Undefined(PortolanError):
    """An operation, or a step of a formula, certainly has no value."""


class TooGreat(PortolanError):
    """A number is beyond the range of a function."""


class Undecided(PortolanError):
    """A question cannot be decided with the bits that are allowed."""


class NoPaper(PortolanError):
    """A paper does not hold."""


class InvalidText(PortolanError):
    """A text has not the form that is asked for."""


class InvalidPoint(PortolanError):
    """Angles are not those of a point or of a patch."""


class NoBearing(PortolanError):
    """There is no direction from one place to the other."""


class NoMidpoint(PortolanError):
    """There is no single shortest way between two places."""


class AtPole(PortolanError):
    """A quantity is not finite at a pole."""


class TooDeep(PortolanError):
    """A place is too near to the center of an ellipsoid."""


class NoPlace(PortolanError):
    """A point has no place on a map, or a map has no point there."""


class NoScales(PortolanError):
    """A projection has not the scales that are asked for."""


class NoTile(PortolanError):
    """There is no such tile."""


class TooMany(PortolanError):
    """There are more tiles than may be told."""


class NoHalves(PortolanError):
    """A polygon is not divided, or points have no hull."""


class InvalidLine(PortolanError):
    """A line of a text is not a command; `line` is its number, from 1."""

    def __init__(self, line):
        PortolanError.__init__(self, f"line {line} is not a command")
        self.line = line
