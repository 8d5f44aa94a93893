"""The functions of the interface stand in the files under which it lists them, with its arguments."""

import importlib
import inspect
import unittest

INTERFACE = """
enclosures: of_fraction(bits, p, q) hull(a, b) common(a, b) is_within(a, b) rescaled(a, bits, other)
enclosures: contains(a, bits, p, q) added(a, b) subtracted(a, b) negated(a) multiplied(a, b, bits)
enclosures: squared(a, bits) divided(a, b, bits) rooted(a, bits) decimal_text(a, bits, places)
functions: pi_enclosed(bits) sine(a, bits) cosine(a, bits) exponential(a, bits) logarithm(a, bits)
functions: arctangent(a, bits) arcsine(a, bits) arccosine(a, bits)
formulas: is_formula(value) number(p, q) pi_formula() plus(f, g) minus(f, g) times(f, g) over(f, g)
formulas: applied(word, f) tidied(formula) steps_of(formula, word)
values: enclose(formula, bits) sign_of(formula) floor_of(formula)
papers: paper_holds(formula, paper) paper_for(formula, bits) told_by(formula, paper, bits)
papertexts: write_paper(formula, paper) read_paper(text)
points: is_point(value) wrapped(angle) made_point(lat, lon) antipode(point) radians(angle) degrees(formula)
angletexts: angle_text(angle) point_text(point) arc_text(angle) read_angle(text) read_point(text)
projections: is_projection(value) forward(projection, point) kind_of(projection)
inverses: inverse(projection, x, y) angle_of(y, x) nearest(projection, x, y)
sphere: direction(p) midpoint(p, q) distance(p, q) chord(p, q) bearing(p, q) cross_track(p, q, r)
sphere: triangle_area(p, q, r) box_area(south, north, west, east) reached(p, azimuth, length)
ellipsoids: is_ellipsoid(value) eccentricity2(ellipsoid) half_axis(ellipsoid) normal_radius(ellipsoid, lat)
ellipsoids: meridian_radius(ellipsoid, lat) position(ellipsoid, point, height)
latitudes: parametric_latitude(ellipsoid, lat) geocentric_latitude(ellipsoid, lat)
latitudes: isometric_latitude(ellipsoid, lat) conformal_latitude(ellipsoid, lat)
latitudes: authalic_latitude(ellipsoid, lat) zone_area(ellipsoid, south, north)
latitudes: latitude_of(ellipsoid, x, z, bits)
scales: scales(projection, point) area_scale(projection, point)
patches: map_area(projection, patch) quarters(patch) scale_bounds(projection, patch, bits)
tiles: is_tile(value) tile_of(point, zoom) cover(south, north, west, east, zoom) meridians(tile) parallels(tile)
tiles: tile_area(tile) parent(tile) neighbor(tile, right, down) ancestor(a, b) children(tile) key_of(tile)
tiles: tile_with(key)
polygons: is_simple(polygon) turning(polygon) double_area(polygon) where(polygon, point) halves(polygon, i, k)
polygons: hull_of(points)
polygonareas: map_polygon_area(polygon) perimeter(polygon)
journeys: journey_length(stops) journey_on(ellipsoid, stops) course_angle(p, q) course_length(p, q)
journeys: is_shorter(f, g) best_order(start, stops) within(center, radius, points)
console: run_console(text)
"""


def listed():
    """Pairs of a file and a function with its arguments, as the interface writes it."""
    for row in INTERFACE.strip().split("\n"):
        file, _, functions = row.partition(": ")
        for function in functions.replace(") ", ")\n").split("\n"):
            yield file, function


class Interface(unittest.TestCase):
    def test_functions(self):
        for file, wanted in listed():
            with self.subTest(file=file, wanted=wanted):
                module = importlib.import_module(f"portolan.{file}")
                name = wanted.partition("(")[0]
                function = getattr(module, name)
                self.assertTrue(inspect.isfunction(function))
                self.assertEqual(function.__module__, f"portolan.{file}")
                self.assertEqual(name + str(inspect.signature(function)), wanted)
