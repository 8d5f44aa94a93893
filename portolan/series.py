"""Functions at one number, in fixed point.

Each function here returns an integer that is at most 1 away from the true
value times 2 to the power of `bits` (or `work`). For this it reckons with more
bits: GUARD of them hold the sum of all roundings, each of which is at most a
few units of the last place, and further ones make up for what doubling and
squaring does to errors.
"""

from math import isqrt

GUARD = 32
# A sum of a few such results, or up to 64 times one, is exact enough with so many bits more.
SPARE = 16


def nearest(n, bits):
    """Return n / 2 ** bits, rounded to a nearest integer."""
    return ((n >> (bits - 1)) + 1) >> 1


def halvings_for(bits):
    """Return how often to halve an argument: each halving costs a step, but saves terms."""
    return isqrt(bits) // 2 + 2


def reciprocal_series(n, bits, sign):
    """Return the sum of sign ** k / ((2 k + 1) n ** (2 k + 1)), with an error below the number of terms.

    It is arctan(1 / n) for the sign -1, and artanh(1 / n) for the sign 1.
    """
    square = n * n
    power = (1 << bits) // n
    total = 0
    direction = 1
    divisor = 1
    while power:
        total = total + direction * (power // divisor)
        power = power // square
        direction = direction * sign
        divisor = divisor + 2
    return total


def pi_scaled(bits):
    """Return pi."""
    # Machin's formula; the sum has less than 2 ** 24 terms, each with a factor of at most 16.
    work = bits + GUARD
    quarter = 4 * reciprocal_series(5, work, -1) - reciprocal_series(239, work, -1)
    return nearest(4 * quarter, GUARD)


def log_of_two(bits):
    """Return the natural logarithm of 2, which is 2 artanh(1 / 3)."""
    return nearest(2 * reciprocal_series(3, bits + GUARD, 1), GUARD)


def inverse_tangent(t, bits, sign):
    """Return arctan(t / 2 ** bits) for the sign 1, and artanh(t / 2 ** bits) for the sign -1.

    t / 2 ** bits is from 0 to 1, and for artanh at most 1 / 3.
    """
    halvings = halvings_for(bits)
    work = bits + halvings + GUARD
    one = 1 << work
    square_of_one = one << work
    t = t << (halvings + GUARD)
    # Each step halves the value, and more than halves, nearly, the error of t.
    for _ in range(halvings):
        root = isqrt(square_of_one + sign * t * t)
        t = (t << work) // (one + root)
    return nearest(odd_series(t, work, -sign), GUARD)


def odd_series(t, bits, sign):
    """Return the sum of sign ** k t ** (2 k + 1) / (2 k + 1)."""
    square = t * t >> bits
    power = t
    total = 0
    direction = 1
    divisor = 1
    while power:
        total = total + direction * (power // divisor)
        power = power * square >> bits
        direction = direction * sign
        divisor = divisor + 2
    return total


def angle_scaled(y, x, bits):
    """Return the angle from 0 to pi / 2 whose tangent is y / x; both are at least 0, and not both 0."""
    work = bits + SPARE
    if y <= x:
        angle = inverse_tangent((y << work) // x, work, 1)
    else:
        angle = pi_scaled(work - 1) - inverse_tangent((x << work) // y, work, 1)
    return nearest(angle, SPARE)


def arctangent_scaled(n, bits, work):
    """Return the arctangent of n / 2 ** bits."""
    angle = angle_scaled(abs(n), 1 << bits, work)
    return angle if n >= 0 else -angle


def arcsine_scaled(n, bits, work):
    """Return the arcsine of n / 2 ** bits, which is from -1 to 1; work is at least bits."""
    # The other side of the triangle gets so many bits that its rounding does not count.
    more = work - bits + SPARE
    other = isqrt(((1 << 2 * bits) - n * n) << 2 * more)
    angle = nearest(angle_scaled(abs(n) << more, other, work + SPARE), SPARE)
    return angle if n >= 0 else -angle


def arccosine_scaled(n, bits, work):
    """Return the arccosine of n / 2 ** bits, which is from -1 to 1; work is at least bits."""
    more = work + SPARE
    return nearest(pi_scaled(more - 1) - arcsine_scaled(n, bits, more), SPARE)


def cosine_scaled(n, bits, work, quarter):
    """Return the cosine of n / 2 ** bits - quarter * pi / 2, the number being from -64 to 64."""
    more = work + SPARE
    half_pi = pi_scaled(more - 1)
    turn = 4 * half_pi
    angle = ((n << (more - bits)) - quarter * half_pi) % turn
    return nearest(cosine_of(min(angle, turn - angle), more), SPARE)


def cosine_of(angle, bits):
    """Return the cosine of angle / 2 ** bits, which is from 0 to 4."""
    # For 1 - cos, doubling the angle multiplies the error by at most 4.
    halvings = halvings_for(bits)
    work = bits + 2 * halvings + GUARD
    square = angle * angle << GUARD >> bits
    term = square >> 1
    total = 0
    direction = 1
    count = 2
    while term:
        total = total + direction * term
        term = (term * square >> work) // ((count + 1) * (count + 2))
        direction = -direction
        count = count + 2
    for _ in range(halvings):
        total = 4 * total - (total * total >> (work - 1))
    return nearest((1 << work) - total, work - bits)


def exponential_scaled(n, bits, work):
    """Return e to the power of n / 2 ** bits, which is from -64 to 64; work is at least bits."""
    size = abs(n)
    # e ** x is less than 2 ** growth; 1 / e ** x needs no bits for this.
    growth = 0 if n < 0 else 3 * (size >> bits) // 2 + 2
    # Squaring doubles the relative error.
    squarings = max(0, size.bit_length() - bits + halvings_for(work))
    more = work + growth + squarings + GUARD
    total = exponential_series(size << (more - bits - squarings), more)
    for _ in range(squarings):
        total = total * total >> more
    if n < 0:
        total = (1 << 2 * more) // total
    return nearest(total, more - work)


def exponential_series(t, bits):
    """Return e to the power of t / 2 ** bits, which is from 0 to 1."""
    term = 1 << bits
    total = 0
    count = 0
    while term:
        total = total + term
        count = count + 1
        term = (term * t >> bits) // count
    return total


def logarithm_scaled(n, bits, work):
    """Return the natural logarithm of n / 2 ** bits, which is positive."""
    size = n.bit_length() - 1
    power = size - bits
    more = work + SPARE + power.bit_length()
    # n is 2 ** size times a number from 1 to 2, and log(m) = 2 artanh((m - 1) / (m + 1)).
    one = 1 << more
    mantissa = n << more >> size
    ratio = ((mantissa - one) << more) // (mantissa + one)
    value = 2 * inverse_tangent(ratio, more, -1)
    if power != 0:
        value = value + power * log_of_two(more)
    return nearest(value, more - work)
