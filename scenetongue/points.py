"""Points and ways: sums, differences, and how a turn places them."""
from scenetongue.fractions import dot, minus, plus, times

NOWHERE = ((0, 1), (0, 1), (0, 1))


def together(one, other):
    """The sum of two points."""
    return (plus(one[0], other[0]), plus(one[1], other[1]), plus(one[2], other[2]))


def way_between(one, other):
    """The way that leads from the one point to the other."""
    return (minus(other[0], one[0]), minus(other[1], one[1]), minus(other[2], one[2]))


def stretched(way, by):
    """A way times a fraction."""
    return (times(way[0], by), times(way[1], by), times(way[2], by))


def crossed(one, other):
    """The way that stands across two ways, noughts where they have one line."""
    return (
        minus(times(one[1], other[2]), times(one[2], other[1])),
        minus(times(one[2], other[0]), times(one[0], other[2])),
        minus(times(one[0], other[1]), times(one[1], other[0])),
    )


def turned(turn, way):
    """A turn, three rows, times a way."""
    return (dot(turn[0], way), dot(turn[1], way), dot(turn[2], way))


def columns_of(turn):
    """The columns of a turn: where it brings the ways of x, y and z."""
    return ((turn[0][0], turn[1][0], turn[2][0]), (turn[0][1], turn[1][1], turn[2][1]),
            (turn[0][2], turn[1][2], turn[2][2]))
