"""Rays: the stretches of moments in which leaves and things are in along them."""
from scenetongue.bounds import NOUGHT
from scenetongue.fractions import dot, minus, over, sign, times
from scenetongue.points import way_between
from scenetongue.roots import compare
from scenetongue.slabs import ball_of, slabs_of
from scenetongue.spans import ALWAYS, directed, met, rows_in


def flat_moment(gap, slope):
    """The moment at which a gap is gone through with that slope; None for no gap."""
    return None if gap is None else (over(gap, slope), NOUGHT, NOUGHT)


def slab_stretch(slab, ray):
    """The stretch in which a ray is between the sides of a slab."""
    across, low, high = slab[0], slab[1], slab[2]
    start, slope = dot(across, ray[0]), dot(across, ray[1])
    to_low = None if low is None else minus(low, start)
    to_high = minus(high, start)
    towards = sign(slope)
    if towards == 0:
        is_between = sign(to_high) > 0 and (to_low is None or sign(to_low) < 0)
        return ALWAYS if is_between else None
    return directed(towards, flat_moment(to_low, slope), flat_moment(to_high, slope), slab)


def ball_stretch(leaf, ray):
    """The stretch in which a ray is in a ball."""
    middle, radius = ball_of(leaf)
    place, way = ray
    gap = way_between(middle, place)
    a = dot(way, way)
    b = dot(way, gap)
    c = minus(dot(gap, gap), times(radius, radius))
    d = minus(times(b, b), times(a, c))
    if sign(d) <= 0:
        return None
    halfway = over(minus(NOUGHT, b), a)
    return ((halfway, over((-1, 1), a), d), (halfway, over((1, 1), a), d), 0, 0)


def leaf_stretch(leaf, ray):
    """The stretch in which a leaf is in along a ray: None, or (begin, end, face, face)."""
    if leaf[1][0] == "ball":
        return ball_stretch(leaf, ray)
    return met([slab_stretch(slab, ray) for slab in slabs_of(leaf)], compare)


def moment_of(mark):
    """The moment of a mark, None for none."""
    return None if mark is None else mark[0]


def face_at(mark, spans):
    """The leaf that tells a mark's moment, and its face there; None for no mark."""
    if mark is None:
        return None
    leaf, edge = mark[1][0]
    return (leaf, spans[leaf][2 + edge])


def stretches(leaves, shape, ray):
    """The stretches in which what a shape makes of leaves is in along a ray: a tuple of (begin, end, at), rising."""
    spans = [leaf_stretch(leaf, ray) for leaf in leaves]
    told = []
    for begin, end in rows_in(spans, shape, compare):
        told.append((moment_of(begin), moment_of(end), face_at(begin, spans)))
    return tuple(told)
