"""Hits: what a ray meets, and what first."""
from scenetongue.fractions import is_whole
from scenetongue.laying import laid_out, laid_things
from scenetongue.rays import stretches
from scenetongue.roots import compare, is_root_number

AT_ONCE = ((0, 1), (0, 1), (0, 1))


def hit_along(laid, ray):
    """The hit of a thing laid out, (name, leaves, shape), along a ray; None where there is none."""
    name, leaves, shape = laid
    for begin, end, at in stretches(leaves, shape, ray):
        if end is not None and compare(end, AT_ONCE) <= 0:
            continue
        if begin is None or compare(begin, AT_ONCE) < 0:
            return (name, None, None, AT_ONCE)
        leaf, face = at
        return (name, leaves[leaf][0], face, begin)
    return None


def first_along(things, ray):
    """The first hit of things laid out, of equal ones that of the thing ahead; None where there is none."""
    first = None
    for laid in things:
        hit = hit_along(laid, ray)
        if hit is not None and (first is None or compare(hit[3], first[3]) < 0):
            first = hit
    return first


def hit_of(scene, name, moment, ray):
    """The hit of the thing of that name at a moment: (name, leaf's name, face, t), or None."""
    leaves, shape = laid_out(scene, name, moment)
    return hit_along((name, leaves, shape), ray)


def first_hit(scene, moment, ray):
    """The hit with the least t of all things at a moment, of equal ones that of the thing shown first, or None."""
    return first_along(laid_things(scene, moment), ray)


def is_same_face(thing, face):
    """Whether anything is just that face, or None where there is none."""
    if face is None:
        return thing is None
    return is_whole(thing) and thing == face


def right_hit(scene, moment, ray, hit):
    """Whether anything is the first hit, however its t is written."""
    first = first_hit(scene, moment, ray)
    if first is None or hit is None:
        return first is None and hit is None
    if not isinstance(hit, tuple) or len(hit) != 4:
        return False
    if hit[0] != first[0] or hit[1] != first[1] or not is_same_face(hit[2], first[2]):
        return False
    return is_root_number(hit[3]) and compare(hit[3], first[3]) == 0
