"""Texts of papers."""

from portolan.errors import InvalidText
from portolan.formulas import is_formula
from portolan.papers import is_paper

MOST_DIGITS = 2000


def write_paper(formula, paper):
    """Return the text of a formula with a paper."""
    bits, enclosures = paper
    lines = [f"paper {bits}\n"]
    for step, enclosure in zip(formula, enclosures):
        words = " ".join([str(part) for part in step])
        lines.append(f"{words} : {enclosure[0]} {enclosure[1]}\n")
    return "".join(lines)


def read_paper(text):
    """Return the tuple of a formula and a paper whose text this is."""
    if not text.endswith("\n"):
        raise InvalidText("the last line has no line feed")
    lines = text[:-1].split("\n")
    bits = read_head(lines[0])
    rows = [read_row(line) for line in lines[1:]]
    formula = tuple([row[0] for row in rows])
    paper = (bits, tuple([row[1] for row in rows]))
    if not is_formula(formula) or not is_paper(paper):
        raise InvalidText("the lines are not those of a formula and a paper")
    return (formula, paper)


def read_head(line):
    """Return the number of bits that the first line tells."""
    words = line.split(" ")
    if len(words) != 2 or words[0] != "paper":
        raise InvalidText("the first line is another one")
    return read_number(words[1])


def read_row(line):
    """Return the step and the two numbers that a line tells; they may be wrong ones."""
    words = line.split(" ")
    if len(words) < 4 or words[-3] != ":":
        raise InvalidText("a line is not that of a step")
    numbers = [read_number(word) for word in words[1:-3]]
    return (words[0], *numbers), (read_number(words[-2]), read_number(words[-1]))


def read_number(word):
    """Return the integer that is told by a word."""
    digits = word[1:] if word.startswith("-") else word
    if not digits.isascii() or not digits.isdigit() or len(digits) > MOST_DIGITS:
        raise InvalidText("this is no number")
    if digits.startswith("0") and word != "0":
        raise InvalidText("a number begins with a needless 0 or is -0")
    return int(word)
