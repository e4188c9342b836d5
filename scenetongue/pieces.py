"""Pieces of pictures, and the picture that pieces make together."""
from scenetongue.cells import cells_by
from scenetongue.errors import NoPieces
from scenetongue.fractions import is_whole
from scenetongue.stages import Stage


def piece(scene, moment, look, part):
    """The part itself, and the rows of those cells of a look that lie in it."""
    stage = Stage(scene, moment)
    return (part, cells_by(stage, stage, look, part))


def is_part(thing, columns, rows):
    """Whether anything is a part, with a cell at least, of a picture of so many columns and rows."""
    if not isinstance(thing, tuple) or len(thing) != 4 or not all([is_whole(edge) for edge in thing]):
        return False
    left, top, right, bottom = thing
    return 0 <= left < right <= columns and 0 <= top < bottom <= rows


def is_row_of_tuples(thing, many, length):
    """Whether anything is a tuple of so many tuples, each of that length."""
    if not isinstance(thing, tuple) or len(thing) != many:
        return False
    return all([isinstance(row, tuple) and len(row) == length for row in thing])


def is_piece(thing, columns, rows):
    """Whether anything is a piece of a picture of so many columns and rows, whatever its cells are."""
    if not isinstance(thing, tuple) or len(thing) != 2 or not is_part(thing[0], columns, rows):
        return False
    left, top, right, bottom = thing[0]
    return is_row_of_tuples(thing[1], bottom - top, right - left)


def cells_of(thing):
    """The cells of a piece: a list of ((column, row), cell)."""
    left, top = thing[0][:2]
    placed = []
    for down, row in enumerate(thing[1]):
        placed.extend([((left + over, top + down), told) for over, told in enumerate(row)])
    return placed


def built_anew(thing):
    """Anything once more, its lists and dicts built anew."""
    if isinstance(thing, tuple):
        return tuple([built_anew(part) for part in thing])
    if isinstance(thing, list):
        return [built_anew(part) for part in thing]
    if isinstance(thing, dict):
        return {key: built_anew(part) for key, part in thing.items()}
    return thing


def joined(columns, rows, pieces):
    """The picture that pieces make together; refused where one is wrong, or a cell is lacking."""
    if not isinstance(pieces, (tuple, list)):
        raise NoPieces(-1)
    found = {}
    for at, thing in enumerate(pieces):
        if not is_piece(thing, columns, rows):
            raise NoPieces(at)
        for place, told in cells_of(thing):
            if place in found:
                raise NoPieces(at)
            # A cell may have a list in it, and what is told has none that was handed in.
            found[place] = built_anew(told)
    if len(found) < columns * rows:
        raise NoPieces(-1)
    return tuple([tuple([found[column, row] for column in range(columns)]) for row in range(rows)])
