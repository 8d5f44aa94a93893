"""Steps whose values are known exactly: numbers, and what the four operations make of such."""

from math import gcd

# A step whose fraction would have more binary digits is taken as not known exactly.
DIGITS = 10000
OPERATIONS = ("add", "subtract", "times", "divide")


def exact_values(steps):
    """Return a list with the fraction (p, q) of each step that is known exactly, and None for the others."""
    found = []
    for step in steps:
        found.append(exact_value(step, found))
    return found


def exact_value(step, found):
    """Return the fraction of a step, or None, from those of the earlier steps."""
    if step[0] == "number":
        return (step[1], step[2])
    if step[0] not in OPERATIONS:
        return None
    first = found[step[1]]
    second = found[step[2]]
    if first is None or second is None:
        return None
    p, q = operation(step[0], first, second)
    if q == 0 or p.bit_length() > DIGITS or q.bit_length() > DIGITS:
        return None
    return lowest_terms(p, q)


def operation(word, first, second):
    """Return numerator and denominator, the latter of any sign, of an operation with two fractions."""
    a, b = first
    c, d = second
    if word == "add":
        return a * d + c * b, b * d
    if word == "subtract":
        return a * d - c * b, b * d
    if word == "times":
        return a * c, b * d
    return a * d, b * c


def lowest_terms(p, q):
    """Return a fraction in lowest terms with a positive denominator."""
    divisor = gcd(p, q)
    if q < 0:
        divisor = -divisor
    return (p // divisor, q // divisor)
