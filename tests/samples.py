"""Sound formulas for tests, made by chance."""

import math

from portolan.formulas import COUNTS

WORDS = sorted(COUNTS)


def random_formula(chance, many):
    """A sound formula with `many` steps, whose arguments keep away from the ends of the ranges."""
    steps = []
    values = []
    while len(steps) < many:
        step = random_step(chance, len(steps))
        value = value_or_none(step, values)
        if value is not None and abs(value) < 1e6:
            steps.append(step)
            values.append(value)
    return tuple(steps)


def random_step(chance, place):
    word = chance.choice(WORDS)
    if word == "number" or place == 0:
        return ("number", chance.randint(-99, 99), chance.choice([1, 2, 3, 7, 10, 64, 97]))
    indexes = [chance.randrange(place) for _ in range(COUNTS[word])]
    return (word, *indexes)


def value_or_none(step, values):
    """The value as a float, or None if there is none, or none that is far from the end of a range."""
    word = step[0]
    if word == "number":
        return step[1] / step[2]
    if word == "pi":
        return math.pi
    x = values[step[1]]
    y = values[step[-1]]
    if word == "divide":
        return x / y if abs(y) > 0.001 else None
    if word in ("add", "subtract", "times"):
        return {"add": x + y, "subtract": x - y, "times": x * y}[word]
    if word == "root":
        return math.sqrt(x) if x > 0.001 else None
    if word in ("sine", "cosine"):
        return {"sine": math.sin, "cosine": math.cos}[word](x) if abs(x) < 63.9 else None
    if word == "exp":
        return math.exp(x) if abs(x) < 63.9 else None
    if word == "log":
        return math.log(x) if x > 0.001 else None
    if word == "arctan":
        return math.atan(x)
    if abs(x) > 0.999:
        return None
    return math.asin(x) if word == "arcsine" else math.acos(x)
