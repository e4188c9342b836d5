"""Pieces of pictures, and what they join to."""
import copy
import inspect
import random
import unittest

from helping import Exactly, anything, scene_of, texts
from making import World
from plainly import plain_picture
from scenetongue import pieces
from scenetongue.cells import cell, picture
from scenetongue.errors import NoPieces, SceneError
from scenetongue.pieces import joined, piece
from scenetongue.reading import read_scene

NOW = (0, 1)


def split(source, part):
    """A part, split to smaller ones at random."""
    left, top, right, bottom = part
    if right - left > 1 and source.random() < 0.6:
        at = source.randint(left + 1, right - 1)
        return split(source, (left, top, at, bottom)) + split(source, (at, top, right, bottom))
    if bottom - top > 1 and source.random() < 0.6:
        at = source.randint(top + 1, bottom - 1)
        return split(source, (left, top, right, at)) + split(source, (left, at, right, bottom))
    return [part]


def filled(left, top, right, bottom):
    """A piece whose cells tell where they stand."""
    return ((left, top, right, bottom), tuple(tuple((column, row) for column in range(left, right)) for row in range(top, bottom)))


def whole(columns, rows):
    return filled(0, 0, columns, rows)[1]


class Piece(Exactly):
    scene = read_scene(World(random.Random(30), cells=(4, 3), room=True).text())

    def test_parts(self):
        for look in self.scene[3]:
            all_cells = picture(self.scene, (1, 2), look)
            columns, rows = look[5], look[6]
            for left in range(columns):
                for right in range(left + 1, columns + 1):
                    for top, bottom in ((0, 1), (1, 2), (rows - 1, rows), (0, rows), (1, rows)):
                        part = (left, top, right, bottom)
                        wanted = tuple(row[left:right] for row in all_cells[top:bottom])
                        self.tells(piece(self.scene, (1, 2), look, part), (part, wanted))

    def test_one_cell(self):
        look = self.scene[3][0]
        for column, row in ((0, 0), (3, 2), (2, 1)):
            part = (column, row, column + 1, row + 1)
            self.tells(piece(self.scene, NOW, look, part), (part, ((cell(self.scene, NOW, look, column, row),),)))

    def test_all_cells(self):
        look = self.scene[3][1]
        self.tells(piece(self.scene, NOW, look, (0, 0, 3, 4)), ((0, 0, 3, 4), plain_picture(self.scene, NOW, look)))

    def test_pieces_made_each_alone_join_to_the_picture(self):
        source = random.Random(31)
        for turn in range(20):
            scene = read_scene(World(source, cells=(source.randint(1, 5), source.randint(1, 4)), room=turn % 2 == 0).text())
            for look in scene[3]:
                parts = split(source, (0, 0, look[5], look[6]))
                source.shuffle(parts)
                told = [piece(scene, (1, 2), look, part) for part in parts]
                self.tells(joined(look[5], look[6], told), picture(scene, (1, 2), look))
                self.tells(joined(look[5], look[6], tuple(told)), picture(scene, (1, 2), look))


class Joined(Exactly):
    def refuses(self, columns, rows, thing, at):
        with self.assertRaises(SceneError) as caught:
            joined(columns, rows, thing)
        self.assertIs(type(caught.exception), NoPieces)
        self.tells(caught.exception.at, at, thing)

    def test_in_any_order(self):
        source = random.Random(32)
        for turn in range(200):
            columns, rows = source.randint(1, 12), source.randint(1, 12)
            parts = split(source, (0, 0, columns, rows))
            source.shuffle(parts)
            told = [filled(*part) for part in parts]
            self.tells(joined(columns, rows, told), whole(columns, rows))
            self.tells(joined(columns, rows, tuple(told)), whole(columns, rows))

    def test_one_piece_and_pieces_of_one_cell(self):
        self.tells(joined(12, 12, [filled(0, 0, 12, 12)]), whole(12, 12))
        self.tells(joined(1, 1, (filled(0, 0, 1, 1),)), whole(1, 1))
        cells = [filled(column, row, column + 1, row + 1) for column in range(12) for row in range(12)]
        self.tells(joined(12, 12, cells), whole(12, 12))

    def test_left_out(self):
        parts = [filled(0, 0, 2, 1), filled(2, 0, 3, 2), filled(0, 1, 2, 2)]
        self.tells(joined(3, 2, parts), whole(3, 2))
        for at in range(3):
            self.refuses(3, 2, parts[:at] + parts[at + 1:], -1)
        self.refuses(3, 2, [], -1)
        self.refuses(1, 1, (), -1)
        self.refuses(4, 2, parts, -1)
        self.refuses(3, 3, parts, -1)

    def test_twice_and_one_over_another(self):
        parts = [filled(0, 0, 2, 1), filled(2, 0, 3, 2), filled(0, 1, 2, 2)]
        for at in range(3):
            self.refuses(3, 2, parts + [parts[at]], 3)
            self.refuses(3, 2, [parts[at]] + parts, at + 1)
            self.refuses(3, 2, [parts[at], parts[at]], 1)
        self.refuses(3, 2, [filled(0, 0, 3, 2), filled(2, 1, 3, 2)], 1)
        self.refuses(3, 2, [filled(0, 0, 2, 2), filled(1, 0, 3, 2)], 1)
        self.refuses(3, 2, [filled(1, 1, 2, 2), filled(0, 0, 1, 2), filled(1, 0, 3, 2)], 2)

    def test_the_first_wrong_one_is_told_also_where_a_cell_is_lacking(self):
        good, bad, twice = filled(0, 0, 1, 1), None, filled(0, 0, 1, 1)
        self.refuses(2, 1, [good, bad], 1)
        self.refuses(2, 1, [bad, good], 0)
        self.refuses(2, 1, [good, twice, bad], 1)
        self.refuses(2, 1, [good, bad, twice], 1)
        self.refuses(2, 1, [good, filled(1, 0, 2, 1), bad], 2)

    def test_what_is_no_piece(self):
        part, rows = filled(1, 1, 3, 3)
        ((a, b), (c, d)) = rows
        for thing in (
            [part, rows], (part,), (part, rows, None), (list(part), rows), (part, list(rows)), (part, ([a, b], (c, d))),
            (part, ((a, b), [c, d])), (part, ((a, b),)), (part, ((a, b), (c, d), ())), (part, ((a, b), (c, d), (a, b))),
            (part, ((a,), (c, d))), (part, ((a, b), (c,))), (part, ((a, b), (c, d, d))), (part, ((a, b), None)), (part, ()),
            (part, None), (None, rows), ((), rows), (part[:3], rows), (part + (3,), rows), ("1133", rows), (part, "ab"),
            (part, ("ab", "cd")), {0: part, 1: rows}, (rows, part), None, (), ((), ()), part, rows, "piece", 0, True,
            (part, {0: (a, b), 1: (c, d)}), (part, ((a, b), {0: c, 1: d})),
        ):
            self.refuses(4, 4, [thing], 0)
            self.refuses(4, 4, (filled(0, 0, 1, 1), thing), 1)

    def test_parts_that_are_none(self):
        one, two = (("x",),), (("x", "x"), ("x", "x"))
        for part in (
            (True, 1, 2, 2), (1, True, 2, 2), (0, 0, True, 1), (0, 0, 1, True), (False, 0, 1, 1), (0, False, 1, 1),
            (4, 0, 5, 1), (0, 4, 1, 5), (-1, 0, 0, 1), (0, -1, 1, 0), (3, 0, 4, 1), (0, 2, 1, 3), ("0", 0, 1, 1), (0, 0, 1, None),
            ((0,), 0, 1, 1), ([], [], [], []), (0, 0, (1,), 1), (10 ** 59, 0, 10 ** 59 + 1, 1), (-(10 ** 59), 0, 1 - 10 ** 59, 1),
        ):
            self.refuses(3, 2, [(part, one)], 0)
        for part, rows in (
            ((1, 0, 1, 1), ((),)), ((0, 1, 1, 1), ()), ((2, 0, 1, 1), ((),)), ((0, 0, 0, 0), ()), ((1, 1, 0, 0), (("x",),)),
            ((2, 0, 0, 2), two), ((0, 2, 2, 0), two), ((2, 2, 0, 0), two), ((2, 0, 4, 2), two), ((0, 1, 2, 3), two),
            ((-1, 0, 1, 2), two), ((0, -1, 2, 1), two),
        ):
            self.refuses(3, 2, [(part, rows)], 0)

    def test_a_row_or_a_cell_more_or_less(self):
        for columns, rows in ((1, 1), (1, 2), (2, 1), (3, 2)):
            for wide, high in ((columns + 1, rows), (columns - 1, rows), (columns, rows + 1), (columns, rows - 1)):
                self.refuses(4, 4, [((0, 0, columns, rows), (("x",) * wide,) * high)], 0)

    def test_no_tuple_or_list(self):
        for thing in anything() + texts() + [None, {0: filled(0, 0, 1, 1)}, "", 0]:
            if not isinstance(thing, (tuple, list)):
                self.refuses(1, 1, thing, -1)
            else:
                self.refuses(1, 1, thing, 0 if len(thing) else -1)
            self.refuses(1, 1, [thing], 0)
            self.refuses(1, 1, (filled(0, 0, 1, 1), thing), 1)
            self.refuses(1, 1, [((0, 0, 1, 1), thing)], 0)
            self.refuses(1, 1, [(thing, (("x",),))], 0)
            self.refuses(2, 2, [((0, 0, 1, 2), (("x",), thing))], -1 if isinstance(thing, tuple) and len(thing) == 1 else 0)

    def test_what_pieces_told_with_a_few_parts_changed(self):
        scene = scene_of("box a 2 -1 -1 3 1 1", "show a red", "look eye 0 0 0 1 -1 -1 0 2 0 0 0 2 2 2")
        good = [piece(scene, NOW, scene[3][0], part) for part in ((0, 0, 2, 1), (0, 1, 1, 2), (1, 1, 2, 2))]
        self.tells(joined(2, 2, good), picture(scene, NOW, scene[3][0]))
        for at in range(3):
            part, rows = good[at]
            for wrong in ((rows, part), (part, rows + rows), (part, rows[0]), (part[::-1], rows), (part, (rows[0] + rows[0],)), part):
                self.refuses(2, 2, good[:at] + [wrong] + good[at + 1:], at)

    def test_cells_may_be_anything(self):
        for thing in anything() + texts() + [None]:
            self.tells(joined(1, 1, [((0, 0, 1, 1), ((thing,),))]), ((thing,),))
            self.tells(joined(2, 1, [((1, 0, 2, 1), ((thing,),)), ((0, 0, 1, 1), ((None,),))]), ((None, thing),))
            self.refuses(2, 1, [((0, 0, 1, 1), ((thing,),))], -1)
            self.refuses(1, 1, [((0, 0, 1, 1), ((thing,),)), ((0, 0, 1, 1), ((thing,),))], 1)

    def test_lists_in_cells_are_built_anew(self):
        one = [1, ([2], {"a": [3]})]
        handed = [((0, 0, 1, 1), ((one,),))]
        told = joined(1, 1, handed)
        told[0][0].append(4)
        told[0][0][1][0].append(5)
        told[0][0][1][1]["a"].append(6)
        self.tells(one, [1, ([2], {"a": [3]})])
        self.tells(joined(1, 1, handed), ((one,),))


class Calls(Exactly):
    def test_nothing_is_changed_and_the_same_is_told(self):
        scene = read_scene(World(random.Random(33)).text())
        self.changes_nothing(piece, scene, (1, 2), scene[3][0], (1, 0, 3, 2))
        self.changes_nothing(joined, 3, 2, [filled(0, 0, 2, 2), filled(2, 0, 3, 2)])
        handed = [filled(0, 0, 2, 2), ["x"], {"a": []}]
        before = copy.deepcopy(handed)
        for again in range(2):
            with self.assertRaises(NoPieces):
                joined(3, 2, handed)
            self.tells(handed, before)

    def test_names_and_arguments(self):
        for name, arguments in (("piece", ["scene", "moment", "look", "part"]), ("joined", ["columns", "rows", "pieces"])):
            function = getattr(pieces, name)
            self.assertEqual(list(inspect.signature(function).parameters), arguments)
            self.assertEqual((function.__name__, function.__module__), (name, "scenetongue.pieces"))


if __name__ == "__main__":
    unittest.main()
