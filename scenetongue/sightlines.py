"""Ways from places with root coordinates to points, and what stands between.

A moment along such a way is a tuple (plain, part, under, below): plain and part times the root of under, together
by below. part is -1, 0 or 1, the others are numbers of one storey, below above nought."""
from scenetongue.fractions import frac, over
from scenetongue.laying import UNTURNED
from scenetongue.points import stretched, together
from scenetongue.slabs import ball_of, slabs_of
from scenetongue.spans import ALWAYS, directed, met, rows_in
from scenetongue.towers import Rooted, Whole


def order_of(storey, one, other):
    """-1, 0 or 1, as the one moment is less than, equal to or greater than the other."""
    plain, part, under, below = one
    other_plain, other_part, other_under, other_below = other
    mine, yours = storey.times(plain, other_below), storey.times(other_plain, below)
    gap = storey.plus(mine, storey.scaled(yours, -1))
    if part == 0 and other_part == 0:
        return storey.sign(gap)
    first = Rooted(storey, under)
    second = Rooted(first, first.lifted(other_under))
    sum_of_two = (gap, storey.scaled(other_below, part))
    return second.sign((sum_of_two, first.lifted(storey.scaled(below, -other_part))))


def whole_numbers(numbers):
    """Fractions made whole: a list of them, all times one whole number above nought, and that number."""
    shared = 1
    for number in numbers:
        shared = frac(shared, number[1])[0] * number[1]
    return ([number[0] * (shared // number[1]) for number in numbers], shared)


def whole_dot(one, other):
    """The sum of the products of two rows of whole numbers, place by place."""
    return one[0] * other[0] + one[1] * other[1] + one[2] * other[2]


class Sightline:
    """The ray from a ray's place at a root number, with the way to a point. Its place and its way are told times
    scale, so that they are whole: pairs of three whole numbers each, the plain parts, and those that are taken times
    the root of a whole number."""

    def __init__(self, ray, t, goal):
        start, along = ray
        plain, part, under = t
        # The root of u by v is the root of u v, by v.
        self.storey = Rooted(Whole(), under[0] * under[1])
        here = together(start, stretched(along, plain))
        beside = stretched(along, over(part, (under[1], 1)))
        # Whole numbers from here on: lowest terms of what is reckoned now would be costly, and aren't needed.
        numbers, self.scale = whole_numbers([*here, *beside, *goal])
        self.place = (numbers[0:3], numbers[3:6])
        self.way = ([to - at for at, to in zip(numbers[0:3], numbers[6:9])], [-at for at in numbers[3:6]])

    def has_no_way(self):
        """Whether the place is the point itself."""
        return all([self.storey.sign(pair) == 0 for pair in zip(self.way[0], self.way[1])])

    def gap(self, start, side):
        """What leads from a number to a whole number."""
        return self.storey.plus(self.storey.lifted(side), self.storey.scaled(start, -1))

    def flat_moment(self, gap, slope):
        """The moment at which a gap is gone through with that slope; None for no gap."""
        if gap is None:
            return None
        towards = self.storey.sign(slope)
        return (self.storey.scaled(gap, towards), 0, self.storey.nought(), self.storey.scaled(slope, towards))

    def to_sides(self, slab):
        """What leads to the low and the high side of a slab, and the slope, all times one whole number above nought."""
        across, low, high = slab[0], slab[1], slab[2]
        # Where there is no low, high stands in its place, and isn't used.
        numbers = whole_numbers([*across, high, high if low is None else low])[0]
        start = (whole_dot(numbers[:3], self.place[0]), whole_dot(numbers[:3], self.place[1]))
        slope = (whole_dot(numbers[:3], self.way[0]), whole_dot(numbers[:3], self.way[1]))
        to_low = None if low is None else self.gap(start, numbers[4] * self.scale)
        return (to_low, self.gap(start, numbers[3] * self.scale), slope)

    def slab_span(self, slab):
        """The stretch between the sides of a slab."""
        to_low, to_high, slope = self.to_sides(slab)
        towards = self.storey.sign(slope)
        if towards == 0:
            is_between = self.storey.sign(to_high) > 0 and (to_low is None or self.storey.sign(to_low) < 0)
            return ALWAYS if is_between else None
        return directed(towards, self.flat_moment(to_low, slope), self.flat_moment(to_high, slope), slab)

    def product(self, one, other):
        """The dot of two pairs such as place and way."""
        plain = whole_dot(one[0], other[0]) + self.storey.under * whole_dot(one[1], other[1])
        return (plain, whole_dot(one[0], other[1]) + whole_dot(one[1], other[0]))

    def ball_span(self, leaf):
        """The stretch in a ball."""
        storey = self.storey
        middle, radius = ball_of(leaf)
        # The ball is told times scale, too, and all of it times shared.
        numbers, shared = whole_numbers([*middle, radius])
        way = ([one * shared for one in self.way[0]], [one * shared for one in self.way[1]])
        gap = ([at * shared - one * self.scale for at, one in zip(self.place[0], numbers[:3])],
               [at * shared for at in self.place[1]])
        reach = numbers[3] * self.scale
        a, b = self.product(way, way), self.product(way, gap)
        c = storey.plus(self.product(gap, gap), storey.lifted(-reach * reach))
        d = storey.plus(storey.times(b, b), storey.scaled(storey.times(a, c), -1))
        if storey.sign(d) <= 0:
            return None
        halfway = storey.scaled(b, -1)
        return ((halfway, -1, d, a), (halfway, 1, d, a), 0, 0)

    def leaf_span(self, leaf, order):
        """The stretch in which a leaf is in."""
        if leaf[1][0] == "ball":
            return self.ball_span(leaf)
        return met([self.slab_span(slab) for slab in slabs_of(leaf)], order)

    def ends(self):
        """The moments nought, at the place, and one, at the point."""
        nought, unit = self.storey.nought(), self.storey.lifted(1)
        return ((nought, 0, nought, unit), (unit, 0, nought, unit))

    def is_hidden_by(self, leaves, shape):
        """Whether what a shape makes of leaves has a stretch that has moments between 0 and 1."""
        storey = self.storey

        def order(one, other):
            return order_of(storey, one, other)

        at_place, at_goal = self.ends()
        spans = [self.leaf_span(leaf, order) for leaf in leaves]
        for begin, end in rows_in(spans, shape, order):
            is_ahead = begin is None or order(begin[0], at_goal) < 0
            if is_ahead and (end is None or order(end[0], at_place) > 0):
                return True
        return False

    def meets(self, box):
        """Whether it is in a closed box at a moment from 0 to 1, both of them, too."""
        if box == ():
            return False
        storey = self.storey
        begin, end = self.ends()
        # Of the slabs between the sides of the box; those that it goes along hold it always, edges too, or never.
        for across, low, high in zip(UNTURNED, box[0], box[1]):
            slab = (across, low, high, None, None)
            to_low, to_high, slope = self.to_sides(slab)
            towards = storey.sign(slope)
            if towards == 0:
                if storey.sign(to_low) > 0 or storey.sign(to_high) < 0:
                    return False
                continue
            span = directed(towards, self.flat_moment(to_low, slope), self.flat_moment(to_high, slope), slab)
            if order_of(storey, span[0], begin) > 0:
                begin = span[0]
            if order_of(storey, span[1], end) < 0:
                end = span[1]
        return order_of(storey, begin, end) <= 0
