"""Boxes around things: what is one, which one holds another, and those of a scene at a moment."""
from scenetongue.fractions import is_fraction, minus, sign
from scenetongue.laying import box_of, laid_things


def is_place(thing):
    """Whether anything is a point."""
    return isinstance(thing, tuple) and len(thing) == 3 and all([is_fraction(part) for part in thing])


def is_nowhere_above(one, other):
    """Whether no fraction of the one point is greater than that of the other."""
    return all([sign(minus(yours, mine)) >= 0 for mine, yours in zip(one, other)])


def is_box(thing):
    """Whether anything is a box (low, high) of two points, low not above high."""
    if not isinstance(thing, tuple) or len(thing) != 2 or not all([is_place(part) for part in thing]):
        return False
    return is_nowhere_above(thing[0], thing[1])


def holds(outer, inner):
    """Whether a box holds another one, edges too."""
    return is_nowhere_above(outer[0], inner[0]) and is_nowhere_above(inner[1], outer[1])


def boxes_at(scene, moment):
    """The box of each thing at a moment, None without end and () for nothing: a dict by names, in the scene's order."""
    return {name: box_of(leaves, shape) for name, leaves, shape in laid_things(scene, moment)}
