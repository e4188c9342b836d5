"""Cells: what a look sees, each cell along its ray, from mirror to mirror."""
from scenetongue.bounds import MIRRORS
from scenetongue.fractions import frac
from scenetongue.points import stretched, together, way_between
from scenetongue.stages import Stage


def mirrored(scene, moment, ray, hit):
    """The ray that a mirror makes of a ray at its first hit; None where nothing mirrors there."""
    return Stage(scene, moment).next_ray(ray, hit)


def followed(stage, asker, ray):
    """A ray and its mirrored ones, each with its first hit, (ray, hit), as the asker tells it."""
    pairs = []
    while ray is not None:
        hit = asker.first(ray)
        pairs.append((ray, hit))
        ray = stage.next_ray(ray, hit) if len(pairs) <= MIRRORS else None
    return tuple(pairs)


def trace(scene, moment, ray):
    """A ray and its mirrored ones, each with its first hit, None where there is none: a tuple of (ray, hit)."""
    stage = Stage(scene, moment)
    return followed(stage, stage, ray)


def cell_ray(look, column, row):
    """The ray of the cell in a column and a row of a look."""
    place, corner, across, down, columns, rows = look[1:]
    over_window = stretched(across, frac(2 * column + 1, 2 * columns))
    down_window = stretched(down, frac(2 * row + 1, 2 * rows))
    return (place, way_between(place, together(corner, together(over_window, down_window))))


def cell_by(stage, asker, look, column, row):
    """The cell of a look, all first hits asked of the asker."""
    pairs = followed(stage, asker, cell_ray(look, column, row))
    return tuple([stage.seen_at(ray, hit) for ray, hit in pairs if hit is not None])


def cells_by(stage, asker, look, part):
    """The rows of those cells of a look that lie in a part, (left, top, right, bottom)."""
    left, top, right, bottom = part
    rows = []
    for row in range(top, bottom):
        rows.append(tuple([cell_by(stage, asker, look, column, row) for column in range(left, right)]))
    return tuple(rows)


def whole_part(look):
    """The part that has all cells of a look."""
    return (0, 0, look[5], look[6])


def cell(scene, moment, look, column, row):
    """What a look sees in a cell: of each hit (thing, colour, leaf, face, lamps)."""
    stage = Stage(scene, moment)
    return cell_by(stage, stage, look, column, row)


def picture(scene, moment, look):
    """All cells of a look, a tuple of rows."""
    stage = Stage(scene, moment)
    return cells_by(stage, stage, look, whole_part(look))
