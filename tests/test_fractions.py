"""Fractions: lowest terms, sums and products, signs, dots, and what is a fraction."""
import copy
import inspect
import itertools
import math
import unittest
from fractions import Fraction

from scenetongue import fractions
from scenetongue.bounds import NOUGHT
from scenetongue.errors import BadScene
from scenetongue.fractions import dot, frac, is_fraction, minus, over, plus, sign, times

HUGE = 10 ** 299 + 123456789
HUGE_ODD = 7 ** 355
HUGE_EVEN = 2 ** 996
SMALL = [(above, below) for below in range(1, 7) for above in range(-7, 8) if math.gcd(above, below) == 1]
GREAT = [
    (HUGE, 1), (-HUGE, 1), (1, HUGE), (-1, HUGE), (HUGE_ODD, HUGE_EVEN), (-HUGE_EVEN, HUGE_ODD),
    (HUGE_ODD + 2, HUGE_ODD), (10 ** 299 + 1, 10 ** 299),
]
FEW = [NOUGHT, (1, 1), (-1, 1), (2, 3), (-2, 3), (3, 2), (-3, 2), (5, 6)]


def as_tuple(worth):
    return (worth.numerator, worth.denominator)


class FractionCase(unittest.TestCase):
    def tells(self, told, worth):
        """What was told is a fraction in lowest terms, as [2] has it, and has that worth."""
        self.assertIs(type(told), tuple)
        self.assertEqual([type(part) for part in told], [int, int])
        self.assertGreaterEqual(told[1], 1)
        self.assertEqual(math.gcd(*told), 1)
        self.assertEqual(told, as_tuple(worth))

    def tells_of_all(self, function, worth_of, pairs):
        for one, other in pairs:
            self.tells(function(one, other), worth_of(Fraction(*one), Fraction(*other)))


class Frac(FractionCase):
    def test_the_figures_of_great_numbers(self):
        for number in (HUGE, HUGE_ODD, HUGE_EVEN):
            self.assertGreaterEqual(len(str(number)), 300)

    def test_every_small_pair(self):
        for above in range(-30, 31):
            for below in range(-30, 31):
                if below:
                    self.tells(frac(above, below), Fraction(above, below))

    def test_lowest_terms_and_signs(self):
        self.assertEqual(frac(6, 4), (3, 2))
        self.assertEqual(frac(3, 2), (3, 2))
        self.assertEqual(frac(-6, 4), (-3, 2))
        self.assertEqual(frac(6, -4), (-3, 2))
        self.assertEqual(frac(-6, -4), (3, 2))
        self.assertEqual(frac(5, -1), (-5, 1))
        self.assertEqual(frac(-5, -5), (1, 1))
        self.assertEqual(frac(4, 2), (2, 1))
        self.assertEqual(frac(2, 4), (1, 2))

    def test_nought_above(self):
        for below in (1, -1, 2, -2, 999999, -999999, HUGE, -HUGE):
            self.tells(frac(0, below), Fraction(0))
            self.assertEqual(frac(0, below), (0, 1))

    def test_great_numbers(self):
        for above, below in itertools.product((HUGE, HUGE_ODD, HUGE_EVEN, 6, 1), repeat=2):
            for first, second in itertools.product((1, -1), repeat=2):
                self.tells(frac(first * above, second * below), Fraction(first * above, second * below))

    def test_great_numbers_with_something_in_common(self):
        self.assertEqual(frac(HUGE * 6, HUGE * 4), (3, 2))
        self.assertEqual(frac(HUGE * -6, HUGE * 4), (-3, 2))
        self.assertEqual(frac(HUGE, -HUGE), (-1, 1))
        self.assertEqual(frac(2 * HUGE_ODD, 2 * HUGE_EVEN), (HUGE_ODD, HUGE_EVEN))

    def test_lowest_terms_stay_as_they_are(self):
        for one in SMALL + GREAT:
            self.assertEqual(frac(*one), one)


class Reckoning(FractionCase):
    def test_every_small_pair(self):
        pairs = list(itertools.product(SMALL, repeat=2))
        self.tells_of_all(plus, lambda one, other: one + other, pairs)
        self.tells_of_all(minus, lambda one, other: one - other, pairs)
        self.tells_of_all(times, lambda one, other: one * other, pairs)
        self.tells_of_all(over, lambda one, other: one / other, [pair for pair in pairs if pair[1][0]])

    def test_great_numbers(self):
        pairs = list(itertools.product(GREAT + FEW, repeat=2))
        self.tells_of_all(plus, lambda one, other: one + other, pairs)
        self.tells_of_all(minus, lambda one, other: one - other, pairs)
        self.tells_of_all(times, lambda one, other: one * other, pairs)
        self.tells_of_all(over, lambda one, other: one / other, [pair for pair in pairs if pair[1][0]])

    def test_nought(self):
        for one in SMALL + GREAT:
            self.assertEqual(plus(one, NOUGHT), one)
            self.assertEqual(plus(NOUGHT, one), one)
            self.assertEqual(minus(one, NOUGHT), one)
            self.assertEqual(minus(NOUGHT, one), (-one[0], one[1]))
            self.assertEqual(times(one, NOUGHT), NOUGHT)
            self.assertEqual(times(NOUGHT, one), NOUGHT)
            if one != NOUGHT:
                self.assertEqual(over(NOUGHT, one), NOUGHT)

    def test_opposites_and_the_same_one_twice(self):
        for one in SMALL + GREAT:
            opposite = (-one[0], one[1])
            self.assertEqual(plus(one, opposite), NOUGHT)
            self.assertEqual(minus(one, one), NOUGHT)
            self.tells(plus(one, one), 2 * Fraction(*one))
            self.tells(minus(one, opposite), 2 * Fraction(*one))
            self.tells(times(one, one), Fraction(*one) ** 2)
            if one != NOUGHT:
                self.assertEqual(over(one, one), (1, 1))
                self.assertEqual(over(one, opposite), (-1, 1))

    def test_parts_alike(self):
        self.assertEqual(plus((1, 6), (1, 6)), (1, 3))
        self.assertEqual(plus((1, 6), (5, 6)), (1, 1))
        self.assertEqual(minus((5, 6), (1, 6)), (2, 3))
        self.assertEqual(times((2, 3), (3, 2)), (1, 1))
        self.assertEqual(times((2, 3), (2, 3)), (4, 9))
        self.assertEqual(over((5, 6), (5, 3)), (1, 2))
        self.assertEqual(over((2, 3), (3, 2)), (4, 9))

    def test_over_by_one_below_nought(self):
        self.assertEqual(over((1, 2), (-3, 4)), (-2, 3))
        self.assertEqual(over((-1, 2), (-3, 4)), (2, 3))
        self.assertEqual(over((0, 1), (-3, 4)), (0, 1))
        self.assertEqual(over((1, 1), (-HUGE, 1)), (-1, HUGE))

    def test_the_order_of_minus_and_over(self):
        self.assertEqual(minus((1, 2), (1, 3)), (1, 6))
        self.assertEqual(minus((1, 3), (1, 2)), (-1, 6))
        self.assertEqual(over((1, 2), (1, 3)), (3, 2))
        self.assertEqual(over((1, 3), (1, 2)), (2, 3))


class Sign(unittest.TestCase):
    def test_sign(self):
        for one in SMALL + GREAT:
            told = sign(one)
            self.assertIs(type(told), int)
            self.assertEqual(told, (one[0] > 0) - (one[0] < 0))
        self.assertEqual((sign((-1, HUGE)), sign((0, 1)), sign((1, HUGE))), (-1, 0, 1))


class Dot(FractionCase):
    def dots(self, one, other):
        worth = sum(Fraction(*mine) * Fraction(*yours) for mine, yours in zip(one, other))
        self.tells(dot(one, other), Fraction(worth))

    def test_examples(self):
        self.assertEqual(dot(((1, 1), (2, 1), (3, 1)), ((4, 1), (5, 1), (6, 1))), (32, 1))
        self.assertEqual(dot(((1, 2), (1, 3), (1, 6)), ((1, 1), (1, 1), (1, 1))), (1, 1))
        self.assertEqual(dot(((1, 1), (1, 1), (0, 1)), ((1, 1), (-1, 1), (9, 1))), NOUGHT)
        self.assertEqual(dot(((-1, 2), (0, 1), (0, 1)), ((3, 1), (7, 1), (8, 1))), (-3, 2))

    def test_each_place_counts(self):
        for place in range(3):
            unit = tuple((1, 1) if place == at else NOUGHT for at in range(3))
            self.assertEqual(dot(unit, ((2, 3), (-4, 5), (6, 7))), ((2, 3), (-4, 5), (6, 7))[place])

    def test_noughts(self):
        noughts = (NOUGHT, NOUGHT, NOUGHT)
        for point in itertools.product(FEW, repeat=3):
            self.assertEqual(dot(noughts, point), NOUGHT)
            self.assertEqual(dot(point, noughts), NOUGHT)
        self.assertEqual(dot(noughts, noughts), NOUGHT)

    def test_the_same_point_twice_and_either_way_round(self):
        points = list(itertools.product(FEW, repeat=3))
        for point in points:
            self.dots(point, point)
        for one, other in zip(points, points[::-1]):
            self.dots(one, other)
            self.assertEqual(dot(one, other), dot(other, one))

    def test_great_numbers(self):
        points = [tuple(GREAT[:3]), tuple(GREAT[3:6]), tuple(GREAT[5:]), (NOUGHT, GREAT[4], (-2, 3))]
        for one, other in itertools.product(points, repeat=2):
            self.dots(one, other)


def nested(depth):
    return [nested(depth - 1)] if depth else (1, 2)


def things_that_are_none():
    """Anything as [2] tells it, and a few things beyond, none of which is a fraction."""
    return [
        (2, 4), (-2, 4), (6, 3), (0, 2), (0, 60), (HUGE, HUGE), (2 * HUGE, 4),
        (1, 0), (0, 0), (-1, 0), (1, -1), (1, -2), (-1, -2), (0, -1), (HUGE, -1),
        (True, 1), (1, True), (True, True), (False, 1), (0, True), (False, True), (1, False), (True, 2), (False, 2),
        "", "1", "12", "(0, 1)", "1/2", "~" * 20000, "\t\n ", ("1", "2"), ("1", 2), (1, "2"), ("", ""),
        None, (None, None), (1, None), (None, 1), True, False, 0, 1, -1, 10 ** 59, -(10 ** 59),
        [], [0, 1], [1, 2], [(1, 2)], ([1], [2]), ([], 1), (1, []), [[1, 2]],
        {}, {0: 1}, {1: 2}, {"above": 1, "below": 2}, ({}, {}), ({}, 1), (1, {}), {(0, 1): (0, 1)},
        (), (0,), (1,), (1, 2, 3), (0, 1, 1), (1, 1, 1, 1), tuple(range(3000)),
        ((0, 1), (0, 1)), ((0, 1), 1), (1, (0, 1)), ((0, 1),), ((0, 1), (0, 1), (0, 1)), ((1,), (2,)),
        nested(12), (nested(11), 1), (1, nested(11)), tuple([nested(10), nested(10)]),
        [0] * 3000, {at: at for at in range(1500)}, ("x" * 20000, 1), (1, "x" * 20000),
        BadScene(0, "long"), (BadScene(0, "long"), 1), b"", b"12", 1.0, (1.0, 2.0), (1, 2.0), {1, 2},
    ]


class IsFraction(unittest.TestCase):
    def test_fractions_are(self):
        for one in SMALL + GREAT + [(10 ** 59 + 1, 10 ** 59), (-999999, 1000), (1, 10 ** 59)]:
            self.assertIs(is_fraction(one), True, one)

    def test_what_is_told_is(self):
        for one, other in itertools.product(FEW, repeat=2):
            for told in (frac(one[0], other[1]), plus(one, other), minus(one, other), times(one, other)):
                self.assertIs(is_fraction(told), True, told)
        self.assertIs(is_fraction(over((1, 2), (-3, 4))), True)
        self.assertIs(is_fraction(dot((FEW[3],) * 3, (FEW[4],) * 3)), True)
        self.assertIs(is_fraction(NOUGHT), True)

    def test_all_else_is_none(self):
        for thing in things_that_are_none():
            self.assertIs(is_fraction(thing), False, repr(thing)[:80])

    def test_every_small_pair(self):
        for above in range(-12, 13):
            for below in range(-12, 13):
                right = below >= 1 and math.gcd(above, below) == 1
                self.assertIs(is_fraction((above, below)), right, (above, below))

    def test_fractions_in_other_kinds_are_none(self):
        for one in FEW:
            for thing in (list(one), dict([one]), str(one), (one,), [one], one + one, one[:1]):
                self.assertIs(is_fraction(thing), False, thing)


class Calls(unittest.TestCase):
    def test_nothing_handed_in_is_changed(self):
        for thing in things_that_are_none():
            if isinstance(thing, BadScene) or (isinstance(thing, tuple) and BadScene in map(type, thing)):
                continue
            before = copy.deepcopy(thing)
            is_fraction(thing)
            self.assertEqual(thing, before)
            self.assertEqual(repr(thing), repr(before))

    def test_points_handed_in_as_they_were(self):
        one, other = ((2, 3), (-1, 2), NOUGHT), ((5, 1), (7, 3), (1, 9))
        dot(one, other)
        self.assertEqual((one, other), (((2, 3), (-1, 2), (0, 1)), ((5, 1), (7, 3), (1, 9))))
        self.assertEqual(NOUGHT, (0, 1))

    def test_the_same_call_tells_the_same_again(self):
        for one, other in itertools.product(GREAT + FEW[1:], repeat=2):
            for function in (plus, minus, times, over):
                self.assertEqual(function(one, other), function(one, other))
            self.assertEqual(frac(one[0], other[0]), frac(one[0], other[0]))
            self.assertEqual(sign(one), sign(one))
            self.assertEqual(dot((one, other, one), (other, one, one)), dot((one, other, one), (other, one, one)))
        for thing in things_that_are_none() + SMALL:
            self.assertIs(is_fraction(thing), is_fraction(thing))

    def test_names_and_arguments(self):
        arguments = {
            "frac": ["above", "below"], "plus": ["one", "other"], "minus": ["one", "other"],
            "times": ["one", "other"], "over": ["one", "other"], "sign": ["one"], "dot": ["one", "other"],
            "is_fraction": ["thing"],
        }
        for name, names in arguments.items():
            function = getattr(fractions, name)
            self.assertEqual(list(inspect.signature(function).parameters), names, name)
            self.assertEqual((function.__name__, function.__module__), (name, "scenetongue.fractions"))


if __name__ == "__main__":
    unittest.main()
