"""Hits: what a ray meets, and what first."""
from scenetongue.fractions import is_whole
from scenetongue.laying import laid_out, laid_things
from scenetongue.rays import stretches
from scenetongue.roots import compare, is_root_number

AT_ONCE = ((0, 1), (0, 1), (0, 1))


def stretch_ahead(laid, ray):
    """The first stretch of a thing laid out, (name, leaves, shape), that ends above nought, or None."""
    for stretch in stretches(laid[1], laid[2], ray):
        if stretch[1] is None or compare(stretch[1], AT_ONCE) > 0:
            return stretch
    return None


def hit_along(laid, ray):
    """The hit of a thing laid out along a ray; None where there is none."""
    stretch = stretch_ahead(laid, ray)
    if stretch is None:
        return None
    begin, at = stretch[0], stretch[2]
    if begin is None or compare(begin, AT_ONCE) < 0:
        return (laid[0], None, None, AT_ONCE)
    return (laid[0], laid[1][at[0]][0], at[1], begin)


def first_of(hits):
    """The one with the least t of hits in the scene's order, of equal ones that ahead; None where there is none."""
    first = None
    for hit in hits:
        if hit is not None and (first is None or compare(hit[3], first[3]) < 0):
            first = hit
    return first


def first_along(things, ray):
    """The first hit of things laid out, in the scene's order; None where there is none."""
    return first_of([hit_along(laid, ray) for laid in things])


def hit_of(scene, name, moment, ray):
    """The hit of the thing of that name at a moment: (name, leaf's name, face, t), or None."""
    leaves, shape = laid_out(scene, name, moment)
    return hit_along((name, leaves, shape), ray)


def first_hit(scene, moment, ray):
    """The hit with the least t of all things at a moment, of equal ones that of the thing shown first, or None."""
    return first_along(laid_things(scene, moment), ray)


def is_same_face(thing, face):
    """Whether anything is just that face, or None where there is none."""
    if face is None:
        return thing is None
    return is_whole(thing) and thing == face


def right_hit(scene, moment, ray, hit):
    """Whether anything is the first hit, however its t is written."""
    first = first_hit(scene, moment, ray)
    if first is None or hit is None:
        return first is None and hit is None
    if not isinstance(hit, tuple) or len(hit) != 4:
        return False
    if hit[0] != first[0] or hit[1] != first[1] or not is_same_face(hit[2], first[2]):
        return False
    return is_root_number(hit[3]) and compare(hit[3], first[3]) == 0
