"""Enclosures: two whole numbers, in units of 1 / 2 ** bits, with numbers between them."""

from math import isqrt

from portolan.errors import Undefined

# Python refuses to write very long numbers at once, so they are written in pieces.
PIECE_DIGITS = 64
PIECE = 10 ** 64


def of_fraction(bits, p, q):
    """Return the least enclosure of the fraction p / q."""
    scaled = p << bits
    return (scaled // q, -(-scaled // q))


def hull(a, b):
    """Return the least enclosure that contains both."""
    return (min(a[0], b[0]), max(a[1], b[1]))


def common(a, b):
    """Return the enclosure of the numbers in both, or None."""
    low = max(a[0], b[0])
    high = min(a[1], b[1])
    if low > high:
        return None
    return (low, high)


def is_within(a, b):
    """Return True if a lies in b."""
    return b[0] <= a[0] and a[1] <= b[1]


def rescaled(a, bits, other):
    """Return the least enclosure with other bits that contains the same numbers."""
    if other >= bits:
        return (a[0] << (other - bits), a[1] << (other - bits))
    return fewer_bits(a[0], a[1], bits - other)


def contains(a, bits, p, q):
    """Return True if the fraction p / q is in an enclosure."""
    return a[0] * q <= p << bits <= a[1] * q


def added(a, b):
    """Return the least enclosure of all sums."""
    return (a[0] + b[0], a[1] + b[1])


def subtracted(a, b):
    """Return the least enclosure of all differences."""
    return (a[0] - b[1], a[1] - b[0])


def negated(a):
    """Return the least enclosure of all numbers with the opposite sign."""
    return (-a[1], -a[0])


def multiplied(a, b, bits):
    """Return the least enclosure of all products."""
    products = [a[0] * b[0], a[0] * b[1], a[1] * b[0], a[1] * b[1]]
    return fewer_bits(min(products), max(products), bits)


def squared(a, bits):
    """Return the least enclosure of all products of one number with itself."""
    squares = [a[0] * a[0], a[1] * a[1]]
    least = 0 if a[0] <= 0 <= a[1] else min(squares)
    return fewer_bits(least, max(squares), bits)


def divided(a, b, bits):
    """Return the least enclosure of all quotients."""
    if b[0] <= 0 <= b[1]:
        raise Undefined("the divisor may be 0")
    low = a[0] << bits
    high = a[1] << bits
    least = min(low // b[0], low // b[1], high // b[0], high // b[1])
    greatest = max(-(-low // b[0]), -(-low // b[1]), -(-high // b[0]), -(-high // b[1]))
    return (least, greatest)


def rooted(a, bits):
    """Return the least enclosure of all square roots that are not negative."""
    if a[0] < 0:
        raise Undefined("a negative number has no square root")
    return (isqrt(a[0] << bits), root_above(a[1] << bits))


def decimal_text(a, bits, places):
    """Return the text of an enclosure in decimal form, rounded outwards."""
    scale = 1
    for _ in range(places):
        scale = scale * 10
    low, high = fewer_bits(a[0] * scale, a[1] * scale, bits)
    return f"{decimal_number(low, places)}..{decimal_number(high, places)}"


def fewer_bits(low, high, bits):
    """Return the least enclosure of two numbers with so many bits less."""
    return (low >> bits, -(-high >> bits))


def root_above(n):
    """Return the least integer whose square is at least n."""
    root = isqrt(n)
    if root * root < n:
        return root + 1
    return root


def decimal_number(n, places):
    """Return the text of n divided by 10 to the power of places."""
    sign = "-" if n < 0 else ""
    digits = digits_of(abs(n)).zfill(places + 1)
    if places == 0:
        return sign + digits
    whole = digits[:-places]
    rest = digits[-places:]
    return f"{sign}{whole}.{rest}"


def digits_of(n):
    """Return the decimal digits of an integer that is not negative."""
    pieces = []
    while n >= PIECE:
        n, rest = divmod(n, PIECE)
        pieces.append(str(rest).zfill(PIECE_DIGITS))
    pieces.append(str(n))
    return "".join(reversed(pieces))
