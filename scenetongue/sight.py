"""Sight: whether a place sees another one, from where, and when no longer."""
from scenetongue.errors import NoWay
from scenetongue.hits import first_hit
from scenetongue.points import way_between
from scenetongue.roots import compare

AT_THE_OTHER = ((1, 1), (0, 1), (0, 1))


def sees(scene, moment, one, other):
    """The hit of what hides the one point from the other, None where nothing does."""
    if one == other:
        raise NoWay("no way leads from a point to itself")
    # A thing's hit is at its first stretch that ends above nought, so what has moments between the two has its hit
    # ahead of the other one, and the first such thing is the first of all.
    hit = first_hit(scene, moment, (one, way_between(one, other)))
    if hit is None or compare(hit[3], AT_THE_OTHER) >= 0:
        return None
    return hit


def first_place(scene, moment, places, other):
    """The number of the first of several points that sees the other one, or is it; None where none does."""
    for number, place in enumerate(places):
        if place == other or sees(scene, moment, place, other) is None:
            return number
    return None


def first_hidden(scene, moments, one, other):
    """The number of the first of several moments at which the one point doesn't see the other; None where none is."""
    if one == other:
        raise NoWay("no way leads from a point to itself")
    for number, moment in enumerate(moments):
        if sees(scene, moment, one, other) is not None:
            return number
    return None
