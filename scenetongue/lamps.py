"""Lamps: which of them reach a place of a ray."""
from scenetongue.laying import laid_things
from scenetongue.sightlines import Sightline


def is_reached(things, ray, t, lamp):
    """Whether a lamp at that point reaches the ray's place at t, past things laid out."""
    line_to_lamp = Sightline(ray, t, lamp)
    if line_to_lamp.has_no_way():
        return True
    for name, leaves, shape in things:
        if line_to_lamp.is_hidden_by(leaves, shape):
            return False
    return True


def lamps_along(things, lamps, ray, t):
    """The names of those lamps that reach the ray's place at t, past things laid out."""
    return tuple([name for name, point in lamps if is_reached(things, ray, t, point)])


def reached(scene, moment, ray, t):
    """The names of the lamps that reach the ray's place at t, any root number, in the scene's order."""
    return lamps_along(laid_things(scene, moment), scene[2], ray, t)
