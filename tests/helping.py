"""What several tests need: fractions and points made in short, comparison by kinds, and anything."""
import copy
import unittest
from fractions import Fraction

from scenetongue.reading import read_scene


def fr(number):
    """A whole number, a text or a Fraction as a fraction of the program."""
    worth = Fraction(number)
    return (worth.numerator, worth.denominator)


def pt(*numbers):
    """A point of what fr takes, also of one text with blanks between."""
    if len(numbers) == 1 and isinstance(numbers[0], str):
        numbers = numbers[0].split()
    return tuple(fr(number) for number in numbers)


def flat(number):
    """A fraction as the moment of a flat side."""
    return (fr(number), (0, 1), (0, 1))


def rooted(p, q, d):
    return (fr(p), fr(q), fr(d))


def ray_of(place, way):
    """A ray of two texts."""
    return (pt(place), pt(way))


def lines(*rows):
    return "\n".join(rows)


def scene_of(*rows):
    return read_scene(lines(*rows))


class Exactly(unittest.TestCase):
    """A case that compares kinds, too: True is not 1, and a list is no tuple."""

    def tells(self, told, wanted, message=None):
        self.assertEqual(repr(told), repr(wanted), message)

    def changes_nothing(self, function, *handed):
        """Nothing handed in is changed, and the same call tells the same again."""
        before = copy.deepcopy(handed)
        first = function(*handed)
        self.tells(handed, before)
        second = function(*handed)
        self.tells(second, first)
        self.tells(handed, before)


def nested(depth):
    return [nested(depth - 1)] if depth else (1, 2)


def anything():
    """Things of every kind that [2] calls anything, none of them a text, None or a scene."""
    return [
        True, False, 0, 1, -1, 7, 10 ** 59, -(10 ** 59), (), (1,), (1, 2), (0, 1), ((0, 1),) * 3, [], [1, 2], {},
        {"a": 1}, {1: [2]}, ((), (), ()), [(), (), (), ()], ([], [], [], []), ((), (), (), (), ()), ((), (), (), []),
        nested(12), (nested(11), nested(11)), tuple(range(3000)), ["box a 0 0 0 1 1 1"], ("box a 0 0 0 1 1 1",),
        {"bodies": ()}, ((None,), (), (), ()), (None, None, None, None), (True, True, True, True), ("", "", "", ""),
        [None], (None,), (("a",), (), (), ()), ((), ("a",), (), ()), ((), (), ("a",), ()), ((), (), (), ("a",)),
    ]


def texts():
    """Texts of every sort that [2] calls anything."""
    return [
        "", " ", "\n", "\t", "\n\n\n", "a", "#", "box", "box a 0 0 0 1 1 1", "~" * 20000, "\n" * 20000, " " * 20000,
        "box a 0 0 0 1 1 1\n" * 900, "show a red", "\t\n ", "!\"$&'()*+,-./:;<=>?@[]^_`{|}~", "x\ty\nz", "None", "()",
    ]
