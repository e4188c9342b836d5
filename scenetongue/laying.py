"""Bodies laid out: the leaves of a thing as they stand, and a box that holds it."""
from scenetongue.bounds import NOUGHT
from scenetongue.fractions import minus, plus, sign
from scenetongue.forms import SPOKEN_OF
from scenetongue.points import columns_of, stretched, together, turned
from scenetongue.shapes import come_to_one
from scenetongue.slabs import ball_of

ONE = (1, 1)
UNTURNED = (((1, 1), (0, 1), (0, 1)), ((0, 1), (1, 1), (0, 1)), ((0, 1), (0, 1), (1, 1)))


def turn_about(axis, cosine, sine):
    """The three rows of a turn about an axis."""
    back = minus(NOUGHT, sine)
    if axis == "x":
        return ((ONE, NOUGHT, NOUGHT), (NOUGHT, cosine, back), (NOUGHT, sine, cosine))
    if axis == "y":
        return ((cosine, NOUGHT, sine), (NOUGHT, ONE, NOUGHT), (back, NOUGHT, cosine))
    return ((cosine, back, NOUGHT), (sine, cosine, NOUGHT), (NOUGHT, NOUGHT, ONE))


def one_behind_other(outer, inner):
    """The turn that does the inner one first, then the outer one."""
    columns = columns_of(inner)
    return tuple([turned(columns, row) for row in outer])


def lay(bodies, number, turn, slide, leaves):
    """Lays out a body that is placed by a turn and a slide: adds its leaves, and tells its shape."""
    name, form = bodies[number]
    word = form[0]
    if word == "slide":
        return lay(bodies, form[1], turn, together(turned(turn, form[2]), slide), leaves)
    if word == "turn":
        return lay(bodies, form[1], one_behind_other(turn, turn_about(form[2], form[3], form[4])), slide, leaves)
    if SPOKEN_OF[word]:
        first = lay(bodies, form[1], turn, slide, leaves)
        second = lay(bodies, form[2], turn, slide, leaves)
        return [*first, *second, word]
    leaves.append((name, form, turn, slide))
    return [len(leaves) - 1]


def name_of(scene, thing):
    """The name of a thing of the scene."""
    return scene[0][thing[0]][0]


def laid_thing(scene, thing, moment):
    """A thing of the scene at a moment, laid out: (name, leaves, shape)."""
    leaves = []
    shape = lay(scene[0], thing[0], UNTURNED, stretched(thing[3], moment), leaves)
    return (name_of(scene, thing), tuple(leaves), tuple(shape))


def laid_things(scene, moment):
    """A list of all things at a moment, laid out, in the scene's order."""
    return [laid_thing(scene, thing, moment) for thing in scene[1]]


def laid_out(scene, name, moment):
    """The leaves and the shape of the thing of that name at a moment."""
    named = [thing for thing in scene[1] if name_of(scene, thing) == name]
    return laid_thing(scene, named[0], moment)[1:]


def utmost(numbers, side):
    """The least of some fractions, where side is -1, or the greatest, where it is 1."""
    found = numbers[0]
    for number in numbers:
        if sign(minus(number, found)) == side:
            found = number
    return found


def around(points):
    """The least box around some points."""
    places = [[point[axis] for point in points] for axis in (0, 1, 2)]
    return (tuple([utmost(place, -1) for place in places]), tuple([utmost(place, 1) for place in places]))


def corners(low, high):
    """The eight corners of a box."""
    return [(x, y, z) for x in (low[0], high[0]) for y in (low[1], high[1]) for z in (low[2], high[2])]


def box_of_leaf(leaf):
    """A box that holds a leaf, None for a half space."""
    form, turn, slide = leaf[1], leaf[2], leaf[3]
    if form[0] == "half":
        return None
    if form[0] == "ball":
        middle, radius = ball_of(leaf)
        return (tuple([minus(one, radius) for one in middle]), tuple([plus(one, radius) for one in middle]))
    return around([together(turned(turn, corner), slide) for corner in corners(form[1], form[2])])


def box_of_join(first, second):
    """A box that holds what two boxes hold, where both have one."""
    if first == ():
        return second
    if second == ():
        return first
    if first is None or second is None:
        return None
    return around([*first, *second])


def box_of_meet(first, second):
    """What two boxes have in common, edges too."""
    if first == () or second == ():
        return ()
    if first is None:
        return second
    if second is None:
        return first
    low = tuple([utmost([one, other], 1) for one, other in zip(first[0], second[0])])
    high = tuple([utmost([one, other], -1) for one, other in zip(first[1], second[1])])
    if any([sign(minus(end, begin)) < 0 for begin, end in zip(low, high)]):
        return ()
    return (low, high)


def box_of_two(word, first, second):
    """The box of what a word makes of two."""
    if word == "join":
        return box_of_join(first, second)
    if word == "cut":
        return first
    return box_of_meet(first, second)


def box_of(leaves, shape):
    """A box that holds all of a thing laid out: None where it has no end, () where there is nothing in it."""
    return come_to_one(shape, [box_of_leaf(leaf) for leaf in leaves], box_of_two)
