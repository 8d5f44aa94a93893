"""Functions of enclosures.

At each end of an enclosure the function is reckoned with EXTRA bits more, in
whole numbers that are at most 1 away from the truth, and rounded outwards.
"""

from portolan.errors import TooGreat
from portolan.errors import Undefined
from portolan.series import arccosine_scaled
from portolan.series import arcsine_scaled
from portolan.series import arctangent_scaled
from portolan.series import cosine_scaled
from portolan.series import exponential_scaled
from portolan.series import logarithm_scaled
from portolan.series import pi_scaled

EXTRA = 32
# The greatest number, without its sign, for sine, cosine and exponential.
GREATEST = 64


def pi_enclosed(bits):
    """Return an enclosure of pi."""
    return outwards(pi_scaled(bits + EXTRA))


def sine(a, bits):
    """Return an enclosure of the sines of all angles of an enclosure."""
    return waved(a, bits, 1)


def cosine(a, bits):
    """Return an enclosure of the cosines of all angles of an enclosure."""
    return waved(a, bits, 0)


def exponential(a, bits):
    """Return an enclosure of e to the powers of all numbers of an enclosure."""
    demand_small(a, bits)
    return rising(exponential_at, a, bits)


def logarithm(a, bits):
    """Return an enclosure of the natural logarithms of all numbers of an enclosure."""
    if a[0] <= 0:
        raise Undefined("only positive numbers have a logarithm")
    return rising(logarithm_at, a, bits)


def arctangent(a, bits):
    """Return an enclosure of the arctangents of all numbers of an enclosure."""
    return rising(arctangent_at, a, bits)


def arcsine(a, bits):
    """Return an enclosure of the arcsines of all numbers of an enclosure."""
    demand_sines(a, bits)
    return rising(arcsine_at, a, bits)


def arccosine(a, bits):
    """Return an enclosure of the arccosines of all numbers of an enclosure."""
    demand_sines(a, bits)
    # It falls, so its least value is at the greater end.
    low, high = rising(arccosine_at, (a[1], a[0]), bits)
    return (max(low, 0), high)


def demand_small(a, bits):
    """Raise TooGreat if an enclosure contains a number below -64 or above 64."""
    limit = GREATEST << bits
    if a[0] < -limit or a[1] > limit:
        raise TooGreat("the number is not from -64 to 64")


def demand_sines(a, bits):
    """Raise Undefined if an enclosure contains a number below -1 or above 1."""
    one = 1 << bits
    if a[0] < -one or a[1] > one:
        raise Undefined("the number is not from -1 to 1")


def outwards(value):
    """Return the least enclosure, with EXTRA bits less, of all numbers at most 1 away from a value."""
    return ((value - 1) >> EXTRA, -(-(value + 1) >> EXTRA))


def rising(enclosed_at, a, bits):
    """Return the enclosure of a function that is least at the first number of a, and greatest at the other."""
    first = enclosed_at(a[0], bits)
    if a[0] == a[1]:
        return first
    return (first[0], enclosed_at(a[1], bits)[1])


def exponential_at(n, bits):
    """Return an enclosure of e to the power of one number."""
    if n == 0:
        return (1 << bits, 1 << bits)
    low, high = outwards(exponential_scaled(n, bits, bits + EXTRA))
    return (max(low, 0), high)


def logarithm_at(n, bits):
    """Return an enclosure of the natural logarithm of one number."""
    if n == 1 << bits:
        return (0, 0)
    return outwards(logarithm_scaled(n, bits, bits + EXTRA))


def arctangent_at(n, bits):
    """Return an enclosure of the arctangent of one number."""
    if n == 0:
        return (0, 0)
    return outwards(arctangent_scaled(n, bits, bits + EXTRA))


def arcsine_at(n, bits):
    """Return an enclosure of the arcsine of one number."""
    if n == 0:
        return (0, 0)
    return outwards(arcsine_scaled(n, bits, bits + EXTRA))


def arccosine_at(n, bits):
    """Return an enclosure of the arccosine of one number."""
    if n == 1 << bits:
        return (0, 0)
    return outwards(arccosine_scaled(n, bits, bits + EXTRA))


def waved(a, bits, quarter):
    """Return an enclosure of the cosines of all angles of an enclosure, less so many right angles."""
    demand_small(a, bits)
    one = 1 << bits
    first = wave_at(a[0], bits, quarter)
    last = wave_at(a[1], bits, quarter) if a[1] > a[0] else first
    low = max(min(first[0], last[0]), -one)
    high = min(max(first[1], last[1]), one)
    least, greatest = right_angles(a, bits)
    if has_turn(least, greatest, quarter):
        high = one
    if has_turn(least, greatest, quarter + 2):
        low = -one
    return (low, high)


def wave_at(n, bits, quarter):
    """Return an enclosure of the cosine of one angle, less so many right angles."""
    if n == 0:
        return (0, 0) if quarter == 1 else (1 << bits, 1 << bits)
    return outwards(cosine_scaled(n, bits, bits + EXTRA, quarter))


def right_angles(a, bits):
    """Return the least and the greatest integer k for which k * pi / 2 may be in an enclosure.

    At an end that is so near to a multiple that this is not certain, the cosine
    or sine is so near to its greatest or least value that it is rounded to it.
    """
    half_pi = pi_scaled(bits + EXTRA - 1)
    low = (a[0] << EXTRA) - GREATEST
    high = (a[1] << EXTRA) + GREATEST
    return (-(-low // half_pi), high // half_pi)


def has_turn(least, greatest, rest):
    """Return True if some integer from least to greatest has this rest modulo 4."""
    return least + (rest - least) % 4 <= greatest
