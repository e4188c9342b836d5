"""Ways from places with root coordinates to points, and what stands between.

A moment along such a way is a tuple (plain, part, under, below): plain and part times the root of under, together
by below. part is -1, 0 or 1, the others are numbers of one storey, below above nought."""
from scenetongue.fractions import dot, frac, minus, over, plus, times
from scenetongue.points import NOWHERE, stretched, together, way_between
from scenetongue.slabs import ball_of, slabs_of
from scenetongue.spans import ALWAYS, directed, met, rows_in
from scenetongue.towers import Rooted, Whole


def order_of(storey, one, other):
    """-1, 0 or 1, as the one moment is less than, equal to or greater than the other."""
    plain, part, under, below = one
    other_plain, other_part, other_under, other_below = other
    mine, yours = storey.times(plain, other_below), storey.times(other_plain, below)
    gap = storey.plus(mine, storey.scaled(yours, -1))
    if part == 0 and other_part == 0:
        return storey.sign(gap)
    first = Rooted(storey, under)
    second = Rooted(first, first.lifted(other_under))
    sum_of_two = (gap, storey.scaled(other_below, part))
    return second.sign((sum_of_two, first.lifted(storey.scaled(below, -other_part))))


def whole_numbers(numbers):
    """Fractions, all times one number above nought that makes them whole."""
    shared = 1
    for number in numbers:
        shared = frac(shared, number[1])[0] * number[1]
    return [number[0] * (shared // number[1]) for number in numbers]


class Sightline:
    """The ray from a ray's place at a root number, with the way to a point. Its place and its way are pairs of tuples
    of three fractions: the plain parts, and those that are taken times the root of a whole number."""

    def __init__(self, ray, t, goal):
        start, along = ray
        plain, part, under = t
        # The root of u by v is the root of u v, by v.
        self.storey = Rooted(Whole(), under[0] * under[1])
        self.place = (together(start, stretched(along, plain)), stretched(along, over(part, (under[1], 1))))
        self.way = (way_between(self.place[0], goal), way_between(self.place[1], NOWHERE))

    def has_no_way(self):
        """Whether the place is the point itself."""
        pairs = [whole_numbers([plain, part]) for plain, part in zip(self.way[0], self.way[1])]
        return all([self.storey.sign(pair) == 0 for pair in pairs])

    def gap(self, start, side):
        """What leads from a number to a whole number."""
        return self.storey.plus(self.storey.lifted(side), self.storey.scaled(start, -1))

    def flat_moment(self, gap, slope):
        """The moment at which a gap is gone through with that slope; None for no gap."""
        if gap is None:
            return None
        towards = self.storey.sign(slope)
        return (self.storey.scaled(gap, towards), 0, self.storey.nought(), self.storey.scaled(slope, towards))

    def slab_span(self, slab):
        """The stretch between the sides of a slab."""
        across, low, high = slab[0], slab[1], slab[2]
        ways = [dot(across, one) for one in (*self.place, *self.way)]
        # Where there is no low, high stands in its place, and isn't used.
        numbers = whole_numbers([*ways, high, high if low is None else low])
        start, slope = (numbers[0], numbers[1]), (numbers[2], numbers[3])
        to_low = None if low is None else self.gap(start, numbers[5])
        to_high = self.gap(start, numbers[4])
        towards = self.storey.sign(slope)
        if towards == 0:
            is_between = self.storey.sign(to_high) > 0 and (to_low is None or self.storey.sign(to_low) < 0)
            return ALWAYS if is_between else None
        return directed(towards, self.flat_moment(to_low, slope), self.flat_moment(to_high, slope), slab)

    def product(self, one, other):
        """The dot of two such pairs of tuples: two fractions, the plain part, and that times the root."""
        under = (self.storey.under, 1)
        plain = plus(dot(one[0], other[0]), times(under, dot(one[1], other[1])))
        return (plain, plus(dot(one[0], other[1]), dot(one[1], other[0])))

    def ball_span(self, leaf):
        """The stretch in a ball."""
        storey = self.storey
        middle, radius = ball_of(leaf)
        gap = (way_between(middle, self.place[0]), self.place[1])
        length, slant, square = self.product(self.way, self.way), self.product(self.way, gap), self.product(gap, gap)
        numbers = whole_numbers([*length, *slant, minus(square[0], times(radius, radius)), square[1]])
        a, b, c = (numbers[0], numbers[1]), (numbers[2], numbers[3]), (numbers[4], numbers[5])
        d = storey.plus(storey.times(b, b), storey.scaled(storey.times(a, c), -1))
        if storey.sign(d) <= 0:
            return None
        halfway = storey.scaled(b, -1)
        return ((halfway, -1, d, a), (halfway, 1, d, a), 0, 0)

    def leaf_span(self, leaf, order):
        """The stretch in which a leaf is in."""
        if leaf[1][0] == "ball":
            return self.ball_span(leaf)
        return met([self.slab_span(slab) for slab in slabs_of(leaf)], order)

    def is_hidden_by(self, leaves, shape):
        """Whether what a shape makes of leaves has a stretch that has moments between 0 and 1."""
        storey = self.storey

        def order(one, other):
            return order_of(storey, one, other)

        nought, unit = storey.nought(), storey.lifted(1)
        at_place, at_goal = (nought, 0, nought, unit), (unit, 0, nought, unit)
        spans = [self.leaf_span(leaf, order) for leaf in leaves]
        for begin, end in rows_in(spans, shape, order):
            is_ahead = begin is None or order(begin[0], at_goal) < 0
            if is_ahead and (end is None or order(end[0], at_place) > 0):
                return True
        return False
