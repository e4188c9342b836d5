"""Root numbers: which is less, however they are written."""
import inspect
import itertools
import unittest
from decimal import Decimal, localcontext
from fractions import Fraction
from math import isqrt

from helping import Exactly, fr, rooted
from scenetongue import roots
from scenetongue.roots import compare

PLAIN = (-2, -1, "-1/2", 0, "1/2", 1, 2)
PARTS = (-2, -1, "-1/3", 0, "1/3", 1, 2)
UNDER = (0, 1, 2, 3, 4, 8, "1/2", "9/4", "1/3", 12)
HUGE = 10 ** 299 + 7


def canonical(number):
    """(plain, part, m) with m whole and without a square in it: equal for equal root numbers alone."""
    plain, part, under = (Fraction(*one) for one in number)
    part, under = part / under.denominator, under.numerator * under.denominator
    for one in range(2, isqrt(under) + 1):
        while under and under % (one * one) == 0:
            part, under = part * one, under // (one * one)
    if under == 1:
        plain, part = plain + part, Fraction(0)
    if part == 0 or under == 0:
        return (plain, Fraction(0), 0)
    return (plain, part, under)


def near_worth(number, figures):
    """The number to so many figures."""
    with localcontext() as context:
        context.prec = figures
        plain, part, under = (Decimal(above) / Decimal(below) for above, below in number)
        return plain + part * under.sqrt()


def told_otherwise(one, other, figures=60):
    """The order of two numbers that are equal only where their canonical forms are."""
    if canonical(one) == canonical(other):
        return 0
    with localcontext() as context:
        context.prec = figures
        return 1 if near_worth(one, figures) > near_worth(other, figures) else -1


class RootCase(Exactly):
    def is_so(self, one, other, wanted):
        """The one against the other, the other way round, and both with all signs turned."""
        turned = [((-p[0], p[1]), (-q[0], q[1]), d) for p, q, d in (one, other)]
        self.tells(compare(one, other), wanted, (one, other))
        self.tells(compare(other, one), -wanted, (other, one))
        self.tells(compare(*turned), -wanted, turned)


class Compare(RootCase):
    def test_every_small_pair(self):
        numbers = [rooted(*parts) for parts in itertools.product(PLAIN, PARTS, UNDER)]
        for one, other in itertools.product(numbers, numbers[::7]):
            self.tells(compare(one, other), told_otherwise(one, other), (one, other))

    def test_a_number_is_equal_to_itself(self):
        for parts in itertools.product(PLAIN, PARTS, UNDER):
            self.is_so(rooted(*parts), rooted(*parts), 0)

    def test_equal_numbers_otherwise_written(self):
        for one, other in (
            ((2, 0, 0), (0, 1, 4)), ((0, 1, 8), (0, 2, 2)), ((0, 1, 4), (2, 0, 7)), ((0, 1, 4), (1, 1, 1)),
            ((3, 0, 5), (3, 5, 0)), ((3, 0, 0), (3, 0, 9)), ((0, 0, 0), (0, 0, 5)), ((0, 0, 0), (0, 7, 0)),
            ((0, 1, "9/4"), ("3/2", 0, 0)), ((1, 1, "1/4"), ("3/2", 0, 0)), ((0, 1, "1/2"), (0, "1/2", 2)),
            ((1, -1, 1), (0, 0, 0)), ((-2, 1, 4), (0, 0, 0)), ((1, 3, 8), (1, 6, 2)), ((5, -1, 18), (5, -3, 2)),
            ((0, 1, 12), (0, 2, 3)), ((0, "1/3", 27), (0, 1, 3)), ((0, 1, "2/9"), (0, "1/3", 2)),
            ((1, 1, 9), (2, 1, 4)), ((-1, -1, 9), (-2, -1, 4)), ((-7, 1, 4), (-2, -1, 9)),
        ):
            self.is_so(rooted(*one), rooted(*other), 0)

    def test_numbers_with_roots_of_unlike_ones(self):
        for one, other, wanted in (
            ((1, 1, 2), (1, 1, 3), -1), ((1, 1, 2), (0, 1, 6), -1), ((1, 1, 2), (0, 1, 5), 1),
            ((0, 1, 2), (-1, 1, 3), 1), ((1, 1, 2), (-1, 1, 3), 1), ((1, -1, 2), (0, 1, 3), -1),
            ((1, -1, 2), (1, -1, 3), 1), ((0, 1, 2), (3, -1, 3), 1), ((0, 1, 2), (4, -1, 3), -1),
            ((0, -1, 2), (-3, 1, 3), -1), ((0, -1, 2), (-4, 1, 3), 1), ((3, -2, 2), ("1/5", 0, 0), -1),
            ((0, 1, 2), (0, 1, 3), -1), ((0, -1, 2), (0, -1, 3), 1), ((0, 1, 2), (0, -1, 3), 1),
            ((0, 3, 2), (0, 2, 3), 1), ((5, 3, 2), (5, 2, 3), 1), ((7, 2, 3), (7, 3, 2), -1),
            ((2, 0, 0), (0, 1, 3), 1), ((2, 0, 0), (0, 1, 5), -1), ((-2, 0, 0), (0, -1, 5), 1),
        ):
            self.is_so(rooted(*one), rooted(*other), wanted)

    def test_one_and_root_two_against_root_three_and_one(self):
        self.is_so(rooted(1, 1, 2), rooted(1, 1, 3), -1)
        self.is_so(rooted(1, -1, 2), rooted(1, -1, 3), 1)
        self.is_so(rooted(1, 1, 2), rooted(1, -1, 3), 1)
        self.is_so(rooted(-1, 1, 2), rooted(-1, 1, 3), -1)

    def test_both_signs_of_both_parts(self):
        for p, q, r, s in itertools.product((-3, -1, 1, 3), repeat=4):
            for d, e in ((2, 3), (3, 2), (2, 2), (2, 8), (1, 2), (4, 9), (0, 2), (5, "9/2")):
                one, other = rooted(p, q, d), rooted(r, s, e)
                self.is_so(one, other, told_otherwise(one, other))


class Near(RootCase):
    def test_fractions_ever_nearer_to_root_two(self):
        above, below = 1, 1
        for step in range(400):
            self.is_so(rooted(Fraction(above, below), 0, 0), rooted(0, 1, 2), 1 if step % 2 else -1)
            self.is_so(rooted(0, Fraction(above, below), 1), rooted(0, 1, 2), 1 if step % 2 else -1)
            above, below = above + 2 * below, above + below

    def test_roots_of_neighbours(self):
        for number in (2, 3, 10, 10 ** 6, 10 ** 100, 10 ** 149, HUGE):
            self.is_so(rooted(0, 1, number), rooted(0, 1, number + 1), -1)
            self.is_so(rooted(number, 0, 0), rooted(0, 1, number * number + 1), -1)
            self.is_so(rooted(number, 0, 0), rooted(0, 1, number * number - 1), 1)
            self.is_so(rooted(number, 0, 0), rooted(0, 1, number * number), 0)
            self.is_so(rooted(Fraction(1, number), 0, 0), rooted(0, 1, Fraction(1, number * number + 1)), 1)

    def test_a_root_against_what_it_nearly_is(self):
        # (n + 1/2n) squared is n n + 1 + 1/4nn: just above n n + 1.
        for number in (1, 2, 7, 10 ** 20, 10 ** 149, 10 ** 299):
            nearly = Fraction(2 * number * number + 1, 2 * number)
            self.is_so(rooted(nearly, 0, 0), rooted(0, 1, number * number + 1), 1)
            exactly = nearly * nearly
            self.is_so(rooted(nearly, 0, 0), rooted(0, 1, exactly), 0)

    def test_two_roots_that_nearly_meet(self):
        # root(n-1) + root(n+1) is just below 2 root n.
        for number in (2, 3, 50, 10 ** 30, HUGE):
            one = rooted(0, 1, number - 1)
            self.is_so(one, rooted(2 * number, -1, number + 1), -1)
            square = rooted(0, -1, number + 1)
            self.is_so(one, square, 1)
            self.is_so(rooted(2 * number, 2, number * number - 1), rooted(4 * number, 0, 0), -1)
            self.is_so(rooted(2 * number, 2, number * number), rooted(4 * number, 0, 0), 0)

    def test_sums_that_part_after_many_figures(self):
        found = [
            (rooted(Fraction(p, 7), q, d), rooted(Fraction(r, 5), s, e))
            for p, q, d, r, s, e in (
                (10 ** 40, 3, 10 ** 41 + 1, 10 ** 40 - 3, 3, 10 ** 41 + 2), (1, 10 ** 60, 2, 1, 10 ** 60 - 1, 3),
                (5 * isqrt(2 * 10 ** 120), 7 * 10 ** 60, 2, 7 * isqrt(3 * 10 ** 120), 5 * 10 ** 60, 3),
                (-7 * isqrt(2 * 10 ** 160), 10 ** 80, 2, -5 * isqrt(3 * 10 ** 160), 10 ** 80, 3),
                (-7 * isqrt(2 * 10 ** 160), 10 ** 80, 2, -5 * isqrt(5 * 10 ** 160) - 5, 10 ** 80, 5),
                (-7 * isqrt(6 * 10 ** 160), 10 ** 80, 6, -5 * isqrt(7 * 10 ** 160) + 5, 10 ** 80, 7),
            )
        ]
        for one, other in found:
            wanted = 1 if near_worth(one, 500) > near_worth(other, 500) else -1
            self.is_so(one, other, wanted)

    def test_numbers_of_300_figures(self):
        odd, even = 7 ** 354, 2 ** 994
        for number in (HUGE, odd, even):
            self.assertEqual(len(str(number)), 300)
        great = [Fraction(HUGE, odd), Fraction(odd, HUGE), Fraction(even, odd), Fraction(HUGE), Fraction(1, even)]
        for p, q, d in itertools.product(great, repeat=3):
            one = rooted(p, q, d)
            self.is_so(one, one, 0)
            self.is_so(one, rooted(p, q * 2, d / 4), 0)
            self.is_so(one, rooted(p + Fraction(1, HUGE), q, d), -1)
            self.is_so(one, rooted(p, -q, d), 1)
            self.is_so(one, rooted(p, q, d + Fraction(1, HUGE)), -1)


class Calls(Exactly):
    def test_nothing_is_changed_and_the_same_is_told(self):
        for one, other in itertools.product([rooted(1, 1, 2), rooted(-1, 2, 3), rooted(0, 0, 0)], repeat=2):
            self.changes_nothing(compare, one, other)

    def test_name_and_arguments(self):
        self.assertEqual(list(inspect.signature(compare).parameters), ["one", "other"])
        self.assertEqual((roots.compare.__name__, roots.compare.__module__), ("compare", "scenetongue.roots"))

    def test_the_example_of_the_document(self):
        self.tells(compare(((2, 1), (0, 1), (0, 1)), ((0, 1), (1, 1), (4, 1))), 0)
        self.assertEqual(fr("6/4"), (3, 2))


if __name__ == "__main__":
    unittest.main()
