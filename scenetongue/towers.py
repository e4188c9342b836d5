"""Whole numbers and roots over them, storey upon storey: what a sum's sign is, by signs and squares alone."""


class Whole:
    """The ground: whole numbers."""

    def nought(self):
        """The number nought."""
        return 0

    def plus(self, one, other):
        """The sum of two numbers."""
        return one + other

    def times(self, one, other):
        """The product of two numbers."""
        return one * other

    def scaled(self, one, by):
        """A number times a whole number."""
        return one * by

    def sign(self, one):
        """-1, 0 or 1, as the number is below, at or above nought."""
        if one < 0:
            return -1
        if one > 0:
            return 1
        return 0


class Rooted:
    """A storey: pairs (plain, part) of numbers of the storey below, plain and part times the root of under."""

    def __init__(self, below, under):
        # under is a number of the storey below, too, and not below nought.
        self.below = below
        self.under = under

    def nought(self):
        """The number nought."""
        return (self.below.nought(), self.below.nought())

    def lifted(self, one):
        """A number of the storey below as one of this storey."""
        return (one, self.below.nought())

    def plus(self, one, other):
        """The sum of two numbers."""
        return (self.below.plus(one[0], other[0]), self.below.plus(one[1], other[1]))

    def times(self, one, other):
        """The product of two numbers."""
        below = self.below
        rooted = below.times(self.under, below.times(one[1], other[1]))
        plain = below.plus(below.times(one[0], other[0]), rooted)
        part = below.plus(below.times(one[0], other[1]), below.times(one[1], other[0]))
        return (plain, part)

    def scaled(self, one, by):
        """A number times a whole number."""
        return (self.below.scaled(one[0], by), self.below.scaled(one[1], by))

    def sign(self, one):
        """-1, 0 or 1, as the number is below, at or above nought."""
        below = self.below
        plain, part = one
        first = below.sign(plain)
        second = below.sign(part) * below.sign(self.under)
        if second == 0 or first == second:
            return first
        if first == 0:
            return second
        # The two parts pull apart, and the one with the greater square wins.
        square = below.times(self.under, below.times(part, part))
        left = below.plus(below.times(plain, plain), below.scaled(square, -1))
        return first * below.sign(left)
