"""Tiles of web maps: tuples (zoom, column, row) on the map of Mercator from -pi to pi."""

from portolan.errors import InvalidPoint
from portolan.errors import InvalidText
from portolan.errors import NoPlace
from portolan.errors import NoTile
from portolan.errors import TooMany
from portolan.exact import lowest_terms
from portolan.formulas import pi_formula
from portolan.points import FULL_TURN
from portolan.points import HALF_TURN
from portolan.points import RIGHT_ANGLE
from portolan.points import is_latitude
from portolan.points import is_longitude
from portolan.terms import ONE
from portolan.terms import difference
from portolan.terms import exponential_term
from portolan.terms import fraction
from portolan.terms import opposite
from portolan.terms import product
from portolan.terms import quotient
from portolan.terms import total
from portolan.trigonometry import latitude_at_height
from portolan.trigonometry import stretched
from portolan.values import floor_of

GREATEST_ZOOM = 30
MOST_TILES = 4096


def is_tile(value):
    """Return True if a tuple of three integers is a tile."""
    zoom, column, row = value
    if zoom < 0 or zoom > GREATEST_ZOOM:
        return False
    return 0 <= column < 1 << zoom and 0 <= row < 1 << zoom


def tile_of(point, zoom):
    """Return the tile of a point."""
    return (zoom, column_of(point[1], zoom), row_of(point[0], zoom))


def meridians(tile):
    """Return the longitudes of the western and the eastern side, as fractions in degrees."""
    zoom, column, _ = tile
    return side_in_degrees(zoom, column), side_in_degrees(zoom, column + 1)


def parallels(tile):
    """Return formulas in radians for the latitudes of the southern and the northern side."""
    zoom, _, row = tile
    return latitude_at_height(side_height(zoom, row + 1)), latitude_at_height(side_height(zoom, row))


def parent(tile):
    """Return the tile of the zoom less by 1 that contains a tile."""
    zoom, column, row = tile
    if zoom == 0:
        raise NoTile("there is no greater tile")
    return (zoom - 1, column // 2, row // 2)


def children(tile):
    """Return the list of the four tiles of the zoom greater by 1 in a tile."""
    zoom, column, row = tile
    if zoom == GREATEST_ZOOM:
        raise NoTile("there are no smaller tiles")
    return [(zoom + 1, 2 * column + right, 2 * row + down) for down in range(2) for right in range(2)]


def neighbor(tile, right, down):
    """Return the tile so many columns to the right, going on at the other side, and so many rows lower."""
    zoom, column, row = tile
    size = 1 << zoom
    if row + down < 0 or row + down >= size:
        raise NoTile("there is no such row")
    return (zoom, (column + right) % size, row + down)


def ancestor(a, b):
    """Return the smallest tile that contains two tiles."""
    zoom = min(a[0], b[0])
    first = grown(a, zoom)
    second = grown(b, zoom)
    while first != second:
        first = parent(first)
        second = parent(second)
    return first


def key_of(tile):
    """Return the text with a digit for each zoom."""
    zoom, column, row = tile
    digits = [(column >> place & 1) + 2 * (row >> place & 1) for place in reversed(range(zoom))]
    return "".join([str(digit) for digit in digits])


def tile_with(key):
    """Return the tile with a key."""
    if len(key) > GREATEST_ZOOM:
        raise InvalidText("the key is too long")
    column = 0
    row = 0
    for character in key:
        if character not in "0123":
            raise InvalidText("a key has the digits 0 to 3 only")
        digit = int(character)
        column = 2 * column + (digit & 1)
        row = 2 * row + (digit >> 1)
    return (len(key), column, row)


def cover(south, north, west, east, zoom):
    """Return the list of all tiles of a zoom from those of one corner to those of the opposite one."""
    demand_box(south, north, west, east)
    top = row_of(north, zoom)
    bottom = row_of(south, zoom)
    left = column_of(west, zoom)
    right = column_of(east, zoom)
    if (right - left + 1) * (bottom - top + 1) > MOST_TILES:
        raise TooMany("there are more than 4096 tiles")
    return [(zoom, column, row) for row in range(top, bottom + 1) for column in range(left, right + 1)]


def tile_area(tile):
    """Return a formula for the area of a tile on the sphere with the radius 1."""
    zoom, _, row = tile
    width = product(fraction(2, 1 << zoom), pi_formula())
    north = sine_at_height(side_height(zoom, row))
    south = sine_at_height(side_height(zoom, row + 1))
    return product(width, difference(north, south))


def column_of(lon, zoom):
    """Return the column of a longitude."""
    return ((lon + HALF_TURN) << zoom) // FULL_TURN


def row_of(lat, zoom):
    """Return the row of a latitude."""
    if abs(lat) == RIGHT_ANGLE:
        raise NoPlace("a pole is not on the map")
    # In rows from the northern side of the map; its southern side begins a row that there is not.
    depth = product(fraction(1 << zoom, 2), difference(ONE, quotient(stretched(lat), pi_formula())))
    row = floor_of(depth)
    if row < 0 or row >= 1 << zoom:
        raise NoPlace("the latitude is beyond the map")
    return row


def side_in_degrees(zoom, column):
    """Return the longitude in degrees at which a column begins, as a fraction in lowest terms."""
    size = 1 << zoom
    return lowest_terms(180 * (2 * column - size), size)


def side_height(zoom, row):
    """Return a formula for the value y at which a row begins in the north."""
    size = 1 << zoom
    return product(fraction(size - 2 * row, size), pi_formula())


def sine_at_height(y):
    """Return a formula for the sine of the latitude at a height y on the map."""
    up = exponential_term(y)
    down = exponential_term(opposite(y))
    return quotient(difference(up, down), total(up, down))


def grown(tile, zoom):
    """Return the tile of a zoom that contains a tile."""
    while tile[0] > zoom:
        tile = parent(tile)
    return tile


def demand_box(south, north, west, east):
    """Raise InvalidPoint if angles are not the sides of a box, which may be a line or a point."""
    if not is_latitude(south) or not is_latitude(north) or south > north:
        raise InvalidPoint("these are not two parallels")
    if not is_longitude(west) or not is_longitude(east) or west > east:
        raise InvalidPoint("these are not two meridians")
