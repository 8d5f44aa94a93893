"""One step of a formula, with enclosures for its arguments.

What is reckoned here is what a paper has to contain, so formulas are enclosed
and papers are checked by the same rules.
"""

from portolan.enclosures import added
from portolan.enclosures import divided
from portolan.enclosures import multiplied
from portolan.enclosures import rescaled
from portolan.enclosures import rooted
from portolan.enclosures import subtracted
from portolan.functions import GREATEST
from portolan.functions import arccosine
from portolan.functions import arcsine
from portolan.functions import arctangent
from portolan.functions import cosine
from portolan.functions import demand_small
from portolan.functions import exponential
from portolan.functions import logarithm
from portolan.functions import pi_enclosed
from portolan.functions import sine


def results(step, enclosures, bits):
    """Return an enclosure of all results of a step that is not a number.

    It raises Undefined or TooGreat if the arguments may be numbers for which
    there is no result.
    """
    word = step[0]
    if word == "pi":
        return pi_enclosed(bits)
    first = enclosures[step[1]]
    if word == "add":
        return added(first, enclosures[step[2]])
    if word == "subtract":
        return subtracted(first, enclosures[step[2]])
    if word == "times":
        return multiplied(first, enclosures[step[2]], bits)
    if word == "divide":
        return divided(first, enclosures[step[2]], bits)
    return function_results(word, first, bits)


def function_results(word, a, bits):
    """Return an enclosure of all results of a function."""
    if word == "root":
        return rooted(a, bits)
    if word == "exp":
        return exponential(a, bits)
    if word == "log":
        return logarithm(a, bits)
    if word == "arctan":
        return arctangent(a, bits)
    if word == "arcsine":
        return arcsine(a, bits)
    if word == "arccosine":
        return arccosine(a, bits)
    return wave_results(word, a, bits)


def wave_results(word, a, bits):
    """Return an enclosure of sines or cosines: the one at the middle, and all that are at most half a width away."""
    demand_small(a, bits)
    # With one bit more, the middle is a whole number, and half the width is the difference of the ends.
    middle = (a[0] + a[1], a[0] + a[1])
    value = sine(middle, bits + 1) if word == "sine" else cosine(middle, bits + 1)
    reach = a[1] - a[0]
    low, high = rescaled((value[0] - reach, value[1] + reach), bits + 1, bits)
    one = 1 << bits
    return (max(low, -one), min(high, one))


def lacks_value(word, low, high, one):
    """Return True if a step certainly has no value, its last argument being from low / one to high / one."""
    if word == "divide":
        return low == 0 and high == 0
    if word == "root":
        return high < 0
    if word == "log":
        return high <= 0
    if word in ("sine", "cosine", "exp"):
        return low > GREATEST * one or high < -GREATEST * one
    if word in ("arcsine", "arccosine"):
        return low > one or high < -one
    return False
