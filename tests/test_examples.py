"""The examples of the interface, as they stand in the document."""

import doctest
import unittest

EXAMPLES = """
>>> from portolan.enclosures import of_fraction
>>> of_fraction(8, 1, 3)
(85, 86)

>>> from portolan.enclosures import rooted
>>> rooted((512, 512), 8)
(362, 363)

>>> from portolan.enclosures import decimal_text
>>> decimal_text((-3, 5), 2, 1)
'-0.8..1.3'

>>> from portolan.enclosures import contains
>>> from portolan.functions import pi_enclosed
>>> contains(pi_enclosed(8), 8, 355, 113)
True

>>> from portolan.formulas import number
>>> from portolan.formulas import plus
>>> plus(number(1, 2), number(1, 3))
(('number', 1, 2), ('number', 1, 3), ('add', 0, 1))

>>> from portolan.formulas import applied
>>> from portolan.formulas import number
>>> from portolan.formulas import tidied
>>> from portolan.formulas import times
>>> tidied(times(number(2, 1), number(2, 1)))
(('number', 2, 1), ('times', 0, 0))

>>> from portolan.formulas import number
>>> from portolan.values import floor_of
>>> floor_of(number(-7, 2))
-4

>>> from portolan.papers import paper_holds
>>> paper_holds((("number", 1, 3),), (8, ((85, 86),)))
True

>>> from portolan.papers import paper_holds
>>> paper_holds((("number", 1, 3), ("times", 0, 0)), (8, ((85, 86), (29, 30))))
False

>>> from portolan.papertexts import write_paper
>>> write_paper((("number", 1, 3),), (8, ((85, 86),)))
'paper 8\\nnumber 1 3 : 85 86\\n'

>>> from portolan.angletexts import angle_text
>>> angle_text(-15000000)
'-1.5'

>>> from portolan.points import made_point
>>> made_point(0, 1800000000)
(0, -1800000000)

>>> from portolan.angletexts import arc_text
>>> arc_text(15123457)
'1d30m44.44452s'

>>> from portolan.projections import forward
>>> from portolan.values import sign_of
>>> sign_of(forward(("mercator", 0, 0, 0, 0), (450000000, -100000000))[1])
1

>>> from portolan.sphere import box_area
>>> from portolan.values import floor_of
>>> floor_of(box_area(-900000000, 900000000, 0, 3600000000))
12

>>> from portolan.ellipsoids import eccentricity2
>>> eccentricity2((2, 1, 10))
(19, 100)

>>> from portolan.ellipsoids import WGS84
>>> from portolan.ellipsoids import half_axis
>>> from portolan.values import floor_of
>>> floor_of(half_axis(WGS84))
6356752

>>> from portolan.projections import is_projection
>>> is_projection(("albers", 0, 0, 200000000, 500000000))
True

>>> from portolan.inverses import nearest
>>> from portolan.projections import forward
>>> x, y = forward(("stereo", 100000000, 0, 0, 0), (480000000, 110000000))
>>> nearest(("stereo", 100000000, 0, 0, 0), x, y)
(480000000, 110000000)

>>> from portolan.patches import quarters
>>> quarters((0, 3, 0, 1))
[(0, 1, 0, 1), (1, 3, 0, 1)]

>>> from portolan.tiles import tile_of
>>> tile_of((0, 0), 1)
(1, 1, 1)

>>> from portolan.tiles import meridians
>>> meridians((3, 1, 0))
((-135, 1), (-90, 1))

>>> from portolan.tiles import key_of
>>> key_of((3, 5, 3))
'123'

>>> from portolan.polygons import where
>>> where([(0, 0), (0, 10), (10, 0)], (2, 2))
'inside'

>>> from portolan.polygons import double_area
>>> double_area([(0, 0), (0, 10), (10, 0)])
100

>>> from portolan.formulas import number
>>> from portolan.formulas import pi_formula
>>> from portolan.journeys import is_shorter
>>> is_shorter(number(3, 1), pi_formula())
True

>>> from portolan.journeys import best_order
>>> best_order((0, 0), [(0, 30), (0, 10), (0, 20)])
[(0, 10), (0, 20), (0, 30)]

>>> from portolan.console import run_console
>>> run_console("point a 0 0\\npoint b 0 90\\ntile b 1\\ntext b\\n")
'1 1 1\\n0d00m00.00000s 90d00m00.00000s\\n'
"""


class Examples(unittest.TestCase):
    def test_examples(self):
        found = doctest.DocTestParser().get_doctest(EXAMPLES, {}, "examples", None, 0)
        report = []
        result = doctest.DocTestRunner(verbose=False).run(found, out=report.append)
        self.assertEqual(result.failed, 0, "".join(report))
        self.assertEqual(result.attempted, EXAMPLES.count(">>> "))
