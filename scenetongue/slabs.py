"""Leaves as they stand: the slabs between flat sides, and balls."""
from scenetongue.fractions import dot, plus
from scenetongue.points import columns_of, together, turned


def slabs_of(leaf):
    """A list of the slabs that a box or a half space is what they have in common: (way, low, high, face, face), the
    points whose dot with the way is between low and high, and the faces there; low and its face None without end."""
    form, turn, slide = leaf[1], leaf[2], leaf[3]
    if form[0] == "half":
        way = turned(turn, form[1])
        return [(way, None, plus(form[2], dot(way, slide)), None, 0)]
    slabs = []
    for axis, way in enumerate(columns_of(turn)):
        off = dot(way, slide)
        slabs.append((way, plus(form[1][axis], off), plus(form[2][axis], off), 2 * axis, 2 * axis + 1))
    return slabs


def ball_of(leaf):
    """The middle of a ball as it stands, and its radius."""
    form, turn, slide = leaf[1], leaf[2], leaf[3]
    return (together(turned(turn, form[1]), slide), form[2])
