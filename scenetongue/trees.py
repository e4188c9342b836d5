"""Trees of boxes: when a ray is in a box, what is a tree for a scene, and one such tree."""
from scenetongue.bounds import NOUGHT
from scenetongue.boxes import boxes_at, holds, is_box
from scenetongue.fractions import is_whole, minus, over, plus, sign
from scenetongue.laying import around, utmost
from scenetongue.points import way_between


def side_moments(low, high, at, along):
    """The moments at which what is at a number, and goes along so fast, comes to low and high, the lesser one first."""
    to_low, to_high = over(minus(low, at), along), over(minus(high, at), along)
    return (to_low, to_high) if sign(along) > 0 else (to_high, to_low)


def box_stretch(box, ray):
    """The moments from nought on at which a ray is in a closed box, (begin, end); None where there are none."""
    if box == ():
        return None
    begin, ends = NOUGHT, []
    for low, high, at, along in zip(box[0], box[1], ray[0], ray[1]):
        if sign(along) == 0:
            if sign(minus(at, low)) < 0 or sign(minus(high, at)) < 0:
                return None
            continue
        first, last = side_moments(low, high, at, along)
        begin = utmost([begin, first], 1)
        ends.append(last)
    # A way isn't nought thrice, so there is an end.
    end = utmost(ends, -1)
    return None if sign(minus(end, begin)) < 0 else (begin, end)


def boxes_in_tree(scene, moment):
    """The boxes of the things that a tree has: a dict by names, in the scene's order."""
    boxes = boxes_at(scene, moment)
    return {name: boxes[name] for name in boxes if boxes[name] is not None and boxes[name] != ()}


def are_kids(thing, number):
    """Whether anything is a tuple of one or more numbers ahead of a number."""
    if not isinstance(thing, tuple) or not thing:
        return False
    return all([is_whole(kid) and 0 <= kid < number for kid in thing])


def is_node(thing, number):
    """Whether anything can be the node of that number, by its kinds alone."""
    if not isinstance(thing, tuple) or len(thing) != 3 or not is_box(thing[2]):
        return False
    if thing[0] == "thing":
        return isinstance(thing[1], str)
    return thing[0] == "node" and are_kids(thing[1], number)


def names_in(tree):
    """The names of the things in a tree."""
    return [node[1] for node in tree if node[0] == "thing"]


def kids_in(tree):
    """The numbers of those nodes of a tree that are kids, as often as they are."""
    kids = []
    for node in tree:
        if node[0] == "node":
            kids.extend(node[1])
    return kids


def holds_beneath(tree, node, boxes):
    """Whether a node's box holds its thing's, or the boxes of its kids."""
    if node[0] == "thing":
        return holds(node[2], boxes[node[1]])
    return all([holds(node[2], tree[kid][2]) for kid in node[1]])


def right_tree(scene, moment, tree):
    """Whether anything is a tree for a scene and a moment."""
    if not isinstance(tree, tuple) or not all([is_node(node, number) for number, node in enumerate(tree)]):
        return False
    kids = kids_in(tree)
    boxes = boxes_in_tree(scene, moment)
    if len(kids) != len(set(kids)) or sorted(names_in(tree)) != sorted(boxes):
        return False
    return all([holds_beneath(tree, node, boxes) for node in tree])


def girth(box):
    """The edges of a box together."""
    edges = way_between(box[0], box[1])
    return plus(edges[0], plus(edges[1], edges[2]))


def closest_two(roots, tree):
    """Those two of several roots whose boxes have the smallest box around them, and that box: (one, other, box)."""
    closest = None
    for at, one in enumerate(roots):
        for other in roots[:at]:
            box = around([*tree[other][2], *tree[one][2]])
            if closest is None or sign(minus(girth(box), girth(closest[2]))) < 0:
                closest = (other, one, box)
    return closest


def tree_of(scene, moment):
    """A tree for a scene and a moment: the closest two are joined, until one root is left."""
    boxes = boxes_in_tree(scene, moment)
    tree = [("thing", name, boxes[name]) for name in boxes]
    roots = list(range(len(tree)))
    while len(roots) > 1:
        one, other, box = closest_two(roots, tree)
        tree.append(("node", (one, other), box))
        roots = [root for root in roots if root not in (one, other)] + [len(tree) - 1]
    return tuple(tree)
