"""Which enclosures of a paper are right (point 4.1), reckoned with fractions and in decimal form."""

from fractions import Fraction

from tests import decimals


def exact_value(formula, place):
    """The value of a step as a fraction, or None if it is not known exactly or has none."""
    word, *rest = formula[place]
    if word == "number":
        return Fraction(*rest)
    if word not in ("add", "subtract", "times", "divide"):
        return None
    x, y = [exact_value(formula, index) for index in rest]
    if x is None or y is None or (word == "divide" and y == 0):
        return None
    return {"add": lambda: x + y, "subtract": lambda: x - y, "times": lambda: x * y, "divide": lambda: x / y}[word]()


def needed(formula, place, enclosures, bits):
    """The least and the greatest number that the enclosure of a step has to contain, or None if there are none."""
    exact = exact_value(formula, place)
    if exact is not None:
        return exact, exact
    word, *rest = formula[place]
    if word == "pi":
        return decimals.settled(decimals.pi()), decimals.settled(decimals.pi())
    sides = [(Fraction(low, 2 ** bits), Fraction(high, 2 ** bits)) for low, high in [enclosures[i] for i in rest]]
    if len(sides) == 2:
        return needed_of_two(word, sides[0], sides[1])
    low, high = sides[0]
    if word in ("sine", "cosine"):
        return needed_of_wave(word, low, high)
    if not possible(word, low, high):
        return None
    values = [decimals.FUNCTIONS[word](decimals.exactly(x.numerator, x.denominator)) for x in (low, high)]
    return min(map(decimals.settled, values)), max(map(decimals.settled, values))


def needed_of_two(word, first, second):
    if word == "divide" and second[0] <= 0 <= second[1]:
        return None
    results = []
    for x in first:
        for y in second:
            results.append({"add": lambda: x + y, "subtract": lambda: x - y, "times": lambda: x * y,
                            "divide": lambda: x / y}[word]())
    return min(results), max(results)


def needed_of_wave(word, low, high):
    if low < -64 or high > 64:
        return None
    middle = (low + high) / 2
    value = decimals.settled(decimals.FUNCTIONS[word](decimals.exactly(middle.numerator, middle.denominator)))
    reach = (high - low) / 2
    return max(value - reach, Fraction(-1)), min(value + reach, Fraction(1))


def possible(word, low, high):
    if word == "root":
        return low >= 0
    if word == "log":
        return low > 0
    if word == "exp":
        return low >= -64 and high <= 64
    if word in ("arcsine", "arccosine"):
        return low >= -1 and high <= 1
    return True


def right(formula, paper, spared=0):
    """True if all enclosures of a paper are right, where those of some words are made smaller by some units."""
    bits, enclosures = paper
    for place, step in enumerate(formula):
        ends = needed(formula, place, enclosures, bits)
        low, high = enclosures[place]
        if ends is None:
            return False
        by = spared if step[0] not in ("number", "add", "subtract", "times", "divide", "root") else 0
        if not Fraction(low + by, 2 ** bits) <= ends[0] or not ends[1] <= Fraction(high - by, 2 ** bits):
            return False
    return True
