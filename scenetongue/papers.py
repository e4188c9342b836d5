"""Papers of asking: what of them can be seen without asking a thing."""
from scenetongue.fractions import is_whole
from scenetongue.roots import compare
from scenetongue.trees import box_stretch


def comes_late(begin, t):
    """Whether a stretch that begins at a fraction comes late for a root number; strictly, as of equal moments the
    order of the text may want the thing."""
    return compare((begin, (0, 1), (0, 1)), t) > 0


def is_missed(box, ray):
    """Whether a ray misses a box."""
    return box_stretch(box, ray) is None


def is_missed_or_late(box, ray, hit):
    """Whether a ray misses a box, or comes to it late for the t of its hit, if it has one."""
    stretch = box_stretch(box, ray)
    return stretch is None or (hit is not None and comes_late(stretch[0], hit[3]))


def is_just(thing, wanted):
    """Whether anything is just what is wanted, made of tuples, texts, whole numbers and None, by its kinds, too."""
    if isinstance(wanted, tuple):
        if not isinstance(thing, tuple) or len(thing) != len(wanted):
            return False
        return all([is_just(part, other) for part, other in zip(thing, wanted)])
    return thing == wanted and not isinstance(thing, bool)


def is_row(thing, names, tree):
    """Whether anything is a row of a paper: a thing asked, or a node of the tree that is missed or comes late."""
    if not isinstance(thing, tuple) or len(thing) != 2:
        return False
    word, what = thing
    if word == "asked":
        return what in names
    return word in ("miss", "late") and is_whole(what) and 0 <= what < len(tree)


def is_paper(thing, names, tree):
    """Whether anything is a paper, by its kinds alone: its hit isn't looked at."""
    if not isinstance(thing, tuple) or len(thing) != 2 or not isinstance(thing[1], tuple):
        return False
    return all([is_row(row, names, tree) for row in thing[1]])


def rows_of(rows, word):
    """What the rows with that word name."""
    return [what for first, what in rows if first == word]


def names_beneath(tree, numbers):
    """The names of the things beneath nodes of a tree, or at these nodes."""
    names = []
    waiting = list(numbers)
    while waiting:
        word, what = tree[waiting.pop()][:2]
        if word == "thing":
            names.append(what)
        else:
            waiting.extend(what)
    return names
