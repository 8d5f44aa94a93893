"""Papers: enclosures of all steps of a formula, and their checker."""

from portolan.enclosures import contains
from portolan.enclosures import is_within
from portolan.enclosures import rescaled
from portolan.errors import NoPaper
from portolan.errors import TooGreat
from portolan.errors import Undefined
from portolan.exact import exact_values
from portolan.kinds import are_integers
from portolan.kinds import is_integer
from portolan.reckoning import narrow_steps
from portolan.steps import results

FEWEST_BITS = 8
MOST_BITS = 4096


def paper_holds(formula, paper):
    """Return True if any value is a paper for a formula in which all enclosures are right."""
    if not is_paper(paper) or len(paper[1]) != len(formula):
        return False
    bits, enclosures = paper
    exacts = exact_values(formula)
    for place, step in enumerate(formula):
        if not is_right(step, exacts[place], enclosures[place], enclosures, bits):
            return False
    return True


def paper_for(formula, bits):
    """Return a paper for a formula whose last enclosure, rescaled, has a width of at most 4."""
    return narrow_steps(formula, bits)


def told_by(formula, paper, bits):
    """Return the last enclosure of a paper that holds, rescaled."""
    if not paper_holds(formula, paper):
        raise NoPaper("the paper does not hold")
    return rescaled(paper[1][-1], paper[0], bits)


def is_paper(value):
    """Return True if any value has the form of a paper for some formula."""
    if not isinstance(value, tuple) or len(value) != 2:
        return False
    bits, enclosures = value
    if not is_integer(bits) or bits < FEWEST_BITS or bits > MOST_BITS or not isinstance(enclosures, tuple):
        return False
    for enclosure in enclosures:
        if not is_enclosure(enclosure):
            return False
    return True


def is_enclosure(value):
    """Return True if any value is an enclosure."""
    if not isinstance(value, tuple) or len(value) != 2 or not are_integers(value):
        return False
    return value[0] <= value[1]


def is_right(step, exact, enclosure, enclosures, bits):
    """Return True if the enclosure of a step contains what it has to contain, given those of its arguments."""
    if exact is not None:
        p, q = exact
        return contains(enclosure, bits, p, q)
    try:
        needed = results(step, enclosures, bits)
    except (Undefined, TooGreat):
        return False
    return is_within(needed, enclosure)
