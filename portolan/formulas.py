"""Formulas: tuples of steps, each of which may refer to earlier ones by their indexes."""

from portolan.kinds import are_integers

# How many numbers or indexes stand behind each word.
COUNTS = {
    "number": 2,
    "pi": 0,
    "add": 2,
    "subtract": 2,
    "times": 2,
    "divide": 2,
    "root": 1,
    "sine": 1,
    "cosine": 1,
    "exp": 1,
    "log": 1,
    "arctan": 1,
    "arcsine": 1,
    "arccosine": 1,
}


def is_formula(value):
    """Return True if any value is a formula, sound or not."""
    if not isinstance(value, tuple) or len(value) == 0:
        return False
    for place, step in enumerate(value):
        if not is_step(step, place):
            return False
    return True


def number(p, q):
    """Return the formula of the fraction p / q."""
    return (("number", p, q),)


def pi_formula():
    """Return the formula of pi."""
    return (("pi",),)


def plus(f, g):
    """Return the formula of the sum of two formulas."""
    return combined("add", f, g)


def minus(f, g):
    """Return the formula of the difference of two formulas."""
    return combined("subtract", f, g)


def times(f, g):
    """Return the formula of the product of two formulas."""
    return combined("times", f, g)


def over(f, g):
    """Return the formula of the quotient of two formulas."""
    return combined("divide", f, g)


def applied(word, f):
    """Return the formula of a function of a formula."""
    return (*f, (word, len(f) - 1))


def tidied(formula):
    """Return a formula with the same value that has each step once, and only those that are used."""
    steps, places = merged(formula)
    return used_steps(steps, places[-1])


def steps_of(formula, word):
    """Return the number of steps with a word."""
    return len([step for step in formula if step[0] == word])


def is_step(step, place):
    """Return True if any value is a step for this place in a formula."""
    if not isinstance(step, tuple) or len(step) == 0 or not isinstance(step[0], str):
        return False
    word = step[0]
    if word not in COUNTS or len(step) != COUNTS[word] + 1 or not are_integers(step[1:]):
        return False
    if word == "number":
        return step[2] >= 1
    for index in step[1:]:
        if index < 0 or index >= place:
            return False
    return True


def indexes_of(step):
    """Return the indexes of the steps to which a step refers."""
    if step[0] == "number":
        return ()
    return step[1:]


def moved(step, places):
    """Return a step whose indexes are replaced by what stands at them in a list."""
    if step[0] == "number" or len(step) == 1:
        return step
    if len(step) == 2:
        return (step[0], places[step[1]])
    return (step[0], places[step[1]], places[step[2]])


def combined(word, f, g):
    """Return the steps of two formulas and a step for the last ones of both."""
    places = list(range(len(f), len(f) + len(g)))
    behind = [moved(step, places) for step in g]
    return (*f, *behind, (word, len(f) - 1, places[-1]))


def merged(formula):
    """Return a list of the steps without repetitions, and a list of the places of all steps in it."""
    kept = []
    places = merged_into(kept, {}, formula)
    return kept, places


def merged_into(kept, place_of, formula):
    """Add the steps of a formula to a list, without repetitions, and return the list of their places in it.

    The dict tells the places of the steps of the list; it is added to, too.
    """
    places = []
    for step in formula:
        fitted = moved(step, places)
        if fitted not in place_of:
            place_of[fitted] = len(kept)
            kept.append(fitted)
        places.append(place_of[fitted])
    return places


def used_steps(steps, last):
    """Return the formula of the steps that are used for the one at the index `last`."""
    used = [False] * last + [True]
    for place in reversed(range(last + 1)):
        if used[place]:
            for index in indexes_of(steps[place]):
                used[index] = True
    kept = []
    places = []
    for place, is_used in enumerate(used):
        places.append(len(kept))
        if is_used:
            kept.append(moved(steps[place], places))
    return tuple(kept)
