"""All steps of a formula: enclosures with more and more bits, until a question is decided."""

from portolan.enclosures import of_fraction
from portolan.enclosures import rescaled
from portolan.errors import TooGreat
from portolan.errors import Undecided
from portolan.errors import Undefined
from portolan.exact import exact_values
from portolan.formulas import merged
from portolan.steps import lacks_value
from portolan.steps import results

# With so many bits everything is decided, or it is taken as undecided.
MOST_BITS = 2048
# The bits that are lost by the steps of most formulas.
SPARE_BITS = 64
WIDTH = 4
# Numbers with more binary digits are not multiplied further: they could fill the memory.
MOST_DIGITS = 262144


def decided(formula, bits, verdict):
    """Return what `verdict` tells of a formula, from few bits on, with at most MOST_BITS.

    It is called with the exact value of the last step, or None, the list of
    the enclosures of all steps, and their bits, and returns None if it cannot
    tell. It raises Undefined if some step has certainly no value, and
    Undecided if this, or the answer, cannot be decided.
    """
    steps, places = merged(formula)
    exacts = exact_values(steps)
    for work in bits_to_try(bits):
        found = enclosed_steps(steps, exacts, work)
        if None not in found:
            enclosures = [found[place] for place in places]
            answer = verdict(exacts[places[-1]], enclosures, work)
            if answer is not None:
                return answer
    raise Undecided("this cannot be decided with 2048 bits")


def narrow_steps(formula, bits):
    """Return a number of bits, at least `bits`, and a tuple of enclosures of all steps with them.

    The last one, rescaled to `bits` bits, has a width of at most 4. It raises
    Undefined and Undecided as `decided` does.
    """
    def narrow(_, enclosures, work):
        low, high = rescaled(enclosures[-1], work, bits)
        if high - low > WIDTH:
            return None
        return work, tuple(enclosures)

    return decided(formula, bits + SPARE_BITS, narrow)


def bits_to_try(bits):
    """Return the list of the numbers of bits to try, from few to many."""
    tried = []
    while bits < MOST_BITS:
        tried.append(bits)
        bits = 2 * bits
    tried.append(MOST_BITS)
    return tried


def enclosed_steps(steps, exacts, bits):
    """Return a list with an enclosure of each step, or None where it cannot be told."""
    found = []
    for step, exact in zip(steps, exacts):
        if exact is not None:
            p, q = exact
            found.append(of_fraction(bits, p, q))
        else:
            refuse_undefined(step, exacts, found, bits)
            found.append(results_or_none(step, found, bits))
    return found


def refuse_undefined(step, exacts, found, bits):
    """Raise Undefined if a step certainly has no value."""
    if len(step) == 1:
        return
    # Only the last argument of a step can be one without a result.
    exact = exacts[step[-1]]
    if exact is not None:
        p, q = exact
        certain = lacks_value(step[0], p, p, q)
    else:
        enclosure = found[step[-1]]
        certain = enclosure is not None and lacks_value(step[0], enclosure[0], enclosure[1], 1 << bits)
    if certain:
        raise Undefined("a step has no value")


def results_or_none(step, found, bits):
    """Return an enclosure of the results of a step, or None if it cannot be told."""
    for index in step[1:]:
        if found[index] is None:
            return None
    try:
        enclosure = results(step, found, bits)
    except (Undefined, TooGreat):
        return None
    if max(abs(enclosure[0]), abs(enclosure[1])).bit_length() > MOST_DIGITS:
        return None
    return enclosure
