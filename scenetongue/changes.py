"""Changes: which cells of a picture they may touch, and the picture repaired."""
from scenetongue.boxes import boxes_at
from scenetongue.cells import cell_by, cell_ray, followed
from scenetongue.laying import laid_things
from scenetongue.papers import is_missed_or_late
from scenetongue.sightlines import Sightline
from scenetongue.stages import Stage


def looks_of_things(state):
    """What may change of each thing of a state, by its name: the colour, whether it is a mirror, how it is laid out."""
    scene, moment = state
    told = {}
    for thing, laid in zip(scene[1], laid_things(scene, moment)):
        told[laid[0]] = (thing[1], thing[2], laid[1], laid[2])
    return told


def names_unchanged(mine, yours):
    """The names of the things that two states both show alike, in the order of the first one."""
    return [name for name in mine if name in yours and mine[name] == yours[name]]


def boxes_changed(state, unchanged):
    """The boxes of those things of a state that are changed, in order."""
    boxes = boxes_at(state[0], state[1])
    return [boxes[name] for name in boxes if name not in unchanged]


def touched(old, new):
    """The boxes of what is changed between two states, the old ones first; None where any cell may be touched."""
    before, after = looks_of_things(old), looks_of_things(new)
    unchanged = names_unchanged(before, after)
    if old[0][2] != new[0][2] or unchanged != names_unchanged(after, before):
        return None
    boxes = boxes_changed(old, unchanged) + boxes_changed(new, unchanged)
    if any([box is None for box in boxes]):
        return None
    return tuple([box for box in boxes if box != ()])


def is_past(lamps, ray, hit, box):
    """Whether a box is missed by a ray, or comes late for its hit, and lies on no way from the hit to a lamp."""
    if not is_missed_or_late(box, ray, hit):
        return False
    if hit is None:
        return True
    return not any([Sightline(ray, hit[3], point).meets(box) for name, point in lamps])


def spared(scene, moment, trace, boxes):
    """Whether a trace told of this scene and moment is spared by boxes: what changes in them can't touch it."""
    for ray, hit in trace:
        for box in boxes:
            if not is_past(scene[2], ray, hit, box):
                return False
    return True


def kept(old, new, look):
    """Of each cell of a look whether it is spared by what is changed between two states: a tuple of rows."""
    scene, moment = old
    columns, rows = look[5], look[6]
    boxes = touched(old, new)
    if not boxes:
        # Where nothing is changed each trace is spared, and where anything may be none is.
        return ((boxes is not None,) * columns,) * rows
    stage = Stage(scene, moment)
    told = []
    for row in range(rows):
        traces = [followed(stage, stage, cell_ray(look, column, row)) for column in range(columns)]
        told.append(tuple([spared(scene, moment, pairs, boxes) for pairs in traces]))
    return tuple(told)


def repaired(old, new, look, picture):
    """The new state's picture, made of the old one's, and how many cells were asked anew."""
    stage = Stage(new[0], new[1])
    asked = 0
    told = []
    for row, truths in enumerate(kept(old, new, look)):
        cells = list(picture[row])
        for column, is_kept in enumerate(truths):
            if not is_kept:
                cells[column] = cell_by(stage, stage, look, column, row)
                asked += 1
        told.append(tuple(cells))
    return (tuple(told), asked)


def parting_cell(first, second, look):
    """The first (column, row) of a look at which what two stages show is unlike, by rows; None where there is none."""
    for row in range(look[6]):
        for column in range(look[5]):
            if cell_by(first, first, look, column, row) != cell_by(second, second, look, column, row):
                return (column, row)
    return None


def parting(one, other, looks):
    """The first (look, column, row), by looks, then rows, at which two states' cells are unlike; None where none is."""
    first, second = Stage(one[0], one[1]), Stage(other[0], other[1])
    for number, look in enumerate(looks):
        found = parting_cell(first, second, look)
        if found is not None:
            return (number, found[0], found[1])
    return None
