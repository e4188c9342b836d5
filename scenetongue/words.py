"""The words of a line: names, axes and numbers, as they are written."""
from scenetongue.bounds import CELLS, FIGURES
from scenetongue.fractions import is_fraction, is_whole

LETTERS = "abcdefghijklmnopqrstuvwxyz"
FIGURE_SIGNS = "0123456789"
AXES = ("x", "y", "z")
NAME_LETTERS = 8


def is_name(thing):
    """Whether anything is a name."""
    if not isinstance(thing, str) or not 1 <= len(thing) <= NAME_LETTERS:
        return False
    return all([letter in LETTERS for letter in thing])


def is_axis(thing):
    """Whether anything is the name of an axis."""
    return thing in AXES


def is_count(thing):
    """Whether anything is how many columns or rows a look may have."""
    return is_whole(thing) and 1 <= thing <= CELLS


def has_few_figures(number):
    """Whether a whole number has so few figures that it can be written."""
    # Never by way of its text: Python makes none of a number with very many figures.
    return abs(number) <= int("9" * FIGURES)


def is_number(thing):
    """Whether anything is a fraction that can be written."""
    return is_fraction(thing) and has_few_figures(thing[0]) and has_few_figures(thing[1])


def whole_of(word):
    """The whole number that a word writes, None where it writes none."""
    figures = word.removeprefix("-")
    if not 1 <= len(figures) <= FIGURES or not all([figure in FIGURE_SIGNS for figure in figures]):
        return None
    if figures[0] == "0" and word != "0":
        return None
    return int(word)


def number_of(word):
    """The fraction that a word writes, None where it writes none."""
    first, stroke, second = word.partition("/")
    above = whole_of(first)
    below = whole_of(second) if stroke else 1
    if above is None or below is None:
        return None
    if stroke and (below < 2 or not is_fraction((above, below))):
        return None
    return (above, below)


def count_of(word):
    """How many columns or rows a word writes, None where it writes no such number."""
    number = whole_of(word)
    return number if is_count(number) else None


def written(number):
    """A fraction as it is written."""
    above, below = number
    return f"{above}" if below == 1 else f"{above}/{below}"
