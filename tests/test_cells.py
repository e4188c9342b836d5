"""Mirrors, traces, cells and pictures."""
import inspect
import random
import unittest
from fractions import Fraction

from helping import Exactly, flat, fr, lines, pt, ray_of, rooted, scene_of
from making import TURNS, Carry, World
from plainly import plain_mirrored, plain_picture, plain_ray, plain_trace
from scenetongue import cells
from scenetongue.bounds import MIRRORS
from scenetongue.cells import cell, cell_ray, mirrored, picture, trace
from scenetongue.fractions import dot
from scenetongue.hits import first_hit
from scenetongue.lamps import reached
from scenetongue.reading import lead, read_scene

NOW = (0, 1)
ALONG = ray_of("0 0 0", "1 0 0")
BOX = "box a -1 -2 -3 1 2 3"
# A ray to each face of that box: its place, its way, where it comes to, and its way from there.
TO_FACES = (
    ("-3 1/2 0", "2 0 1", "-1 1/2 1", "-2 0 1"),
    ("4 0 -1", "-3 1 1", "1 1 0", "3 1 1"),
    ("0 -7 0", "1/5 5 -1", "1/5 -2 -1", "1/5 -5 -1"),
    ("1/2 3 1", "0 -1 0", "1/2 2 1", "0 1 0"),
    ("0 0 -5", "1/2 1 2", "1/2 1 -3", "1/2 1 -2"),
    ("1/3 -1/3 10", "0 0 -7/2", "1/3 -1/3 3", "0 0 7/2"),
)


def carried_ray(carry, place, way):
    return (pt(*carry.point(place.split())), pt(*carry.way(way.split())))


class Mirrored(Exactly):
    def mirrors(self, scene, ray, wanted, moment=NOW):
        hit = first_hit(scene, moment, ray)
        told = mirrored(scene, moment, ray, hit)
        self.tells(told, wanted, (ray, hit))
        if told is not None:
            self.assertEqual(dot(told[1], told[1]), dot(ray[1], ray[1]))

    def test_each_face_of_a_box(self):
        scene = scene_of(BOX, "show a red mirror")
        for face, (place, way, comes, goes) in enumerate(TO_FACES):
            ray = ray_of(place, way)
            self.assertEqual(first_hit(scene, NOW, ray)[:3], ("a", "a", face))
            self.mirrors(scene, ray, ray_of(comes, goes))

    def test_each_face_of_a_box_turned_and_slid(self):
        for axis in "xyz":
            for turn in TURNS:
                carry = Carry(axis, turn, ("1/2", -3, "7/3"))
                rows = (BOX, f"turn b a {axis} {turn[0]} {turn[1]}", "slide c b 1/2 -3 7/3", "show c red mirror")
                scene = scene_of(*rows)
                for face, (place, way, comes, goes) in enumerate(TO_FACES):
                    ray = carried_ray(carry, place, way)
                    self.assertEqual(first_hit(scene, NOW, ray)[:3], ("c", "a", face))
                    self.mirrors(scene, ray, carried_ray(carry, comes, goes))

    def test_a_turn_behind_a_turn_and_a_slide(self):
        first, second = Carry("x", ("3/5", "4/5"), (1, 2, 3)), Carry("z", ("0", "-1"), (0, 0, 0))
        scene = scene_of(BOX, "turn b a x 3/5 4/5", "slide c b 1 2 3", "turn d c z 0 -1", "show d red mirror")
        for place, way, comes, goes in TO_FACES:
            ray = (pt(*second.point(first.point(place.split()))), pt(*second.way(first.way(way.split()))))
            self.mirrors(scene, ray, (pt(*second.point(first.point(comes.split()))), pt(*second.way(first.way(goes.split())))))

    def test_a_box_that_moves(self):
        scene = scene_of(BOX, "show a red mirror move 2 -4 6")
        for moment, slide in (((1, 2), (1, -2, 3)), ((-1, 1), (-2, 4, -6)), ((0, 1), (0, 0, 0)), ((7, 3), ("14/3", "-28/3", 14))):
            carry = Carry(slide=slide)
            for place, way, comes, goes in TO_FACES:
                self.mirrors(scene, carried_ray(carry, place, way), carried_ray(carry, comes, goes), moment)
        self.mirrors(scene, ray_of(*TO_FACES[0][:2]), None, (9, 1))

    def test_half_spaces(self):
        scene = scene_of("half h 0 0 1 0", "show h red mirror")
        self.mirrors(scene, ray_of("0 0 5", "1 0 -1"), ray_of("5 0 0", "1 0 1"))
        self.mirrors(scene, ray_of("0 0 5", "0 0 -5"), ray_of("0 0 0", "0 0 5"))
        self.mirrors(scene, ray_of("0 0 5", "1 0 1"), None)
        scene = scene_of("half h 1 2 2 0", "show h red mirror")
        self.mirrors(scene, ray_of("9 0 0", "-1 0 0"), ray_of("0 0 0", "-7/9 4/9 4/9"))
        self.mirrors(scene, ray_of("9 0 0", "-3 0 0"), ray_of("0 0 0", "-7/3 4/3 4/3"))
        # The length of the half space's way matters not, nor does its bound's.
        scene = scene_of("half h 1/3 2/3 2/3 5/3", "show h red mirror")
        self.mirrors(scene, ray_of("9 0 0", "-1 0 0"), ray_of("5 0 0", "-7/9 4/9 4/9"))

    def test_half_spaces_turned_slid_and_moving(self):
        for axis in "xyz":
            for turn in TURNS:
                for slide, moment, move in (((1, "-2/3", 5), NOW, (0, 0, 0)), ((1, "-2/3", 5), (3, 2), (-2, 4, "1/3"))):
                    off = [Fraction(*moment) * Fraction(one) for one in move]
                    carry = Carry(axis, turn, [Fraction(one) + other for one, other in zip(slide, off)])
                    rows = ["half h 1 2 2 0", f"turn b h {axis} {turn[0]} {turn[1]}", "slide c b 1 -2/3 5"]
                    scene = scene_of(*rows, "show c red mirror move " + " ".join(str(one) for one in move))
                    ray = carried_ray(carry, "9 1/2 -1/2", "-1 0 0")
                    self.mirrors(scene, ray, carried_ray(carry, "0 1/2 -1/2", "-7/9 4/9 4/9"), moment)

    def test_two_leaves_of_one_name(self):
        # From 5 on, the side of a at 1 and that of its turned copy are met, where y is 1/2 both at once.
        rows = ("box a -1 -1 -1 1 1 1", "turn b a z 3/5 4/5")
        from_turned = "-7/25 24/25 0"
        for order, y, comes, goes in (
            ("a b", "0", "5/4 0 0", "7/25 -24/25 0"), ("b a", "0", "5/4 0 0", "7/25 -24/25 0"),
            ("a b", "1/2", "1 1/2 0", "1 0 0"), ("b a", "1/2", "1 1/2 0", from_turned),
            ("a b", "3/4", "1 3/4 0", "1 0 0"), ("b a", "3/4", "1 3/4 0", "1 0 0"),
            ("a b", "1/4", "4/3 1/4 0", from_turned), ("b a", "1/4", "4/3 1/4 0", from_turned),
        ):
            scene = scene_of(*rows, f"join c {order}", "show c red mirror")
            ray = ray_of(f"5 {y} 0", "-1 0 0")
            hit = first_hit(scene, NOW, ray)
            self.assertEqual(hit[:2], ("c", "a"))
            self.mirrors(scene, ray, ray_of(comes, goes))

    def test_a_leaf_that_ends_just_there_and_stands_first(self):
        # The turned copy is left where a is entered: the first of the two tells the side, whichever makes it.
        rows = ["box a 0 -9 -9 4 9 9", "slide s a -4 0 0", "turn t s z 3/5 4/5", "box w -9 -9 -9 9 9 9"]
        scene = scene_of(*rows, "cut c w t", "join d c a", "show d red mirror")
        for ray in (ray_of("-1 3/4 0", "1 0 0"), ray_of("-1 0 0", "1 0 0"), ray_of("-1 1 1", "1 -1 0")):
            hit = first_hit(scene, NOW, ray)
            self.tells(mirrored(scene, NOW, ray, hit), plain_mirrored(scene, NOW, ray, hit))
        scene = scene_of("box a 0 -1 -1 2 1 1", "box b -2 -1 -1 1 1 1", "cut c a b", "show c red mirror")
        self.mirrors(scene, ray_of("-1/2 0 0", "3/2 1/2 0"), ray_of("1 1/2 0", "-3/2 1/2 0"))

    def test_nothing_mirrors(self):
        mirror = scene_of(BOX, "show a red mirror")
        self.tells(mirrored(mirror, NOW, ray_of("-3 5 0", "1 0 0"), None), None)
        self.mirrors(mirror, ray_of("-3 5 0", "1 0 0"), None)
        self.mirrors(mirror, ALONG, None)
        self.mirrors(mirror, ray_of("1/2 0 0", "0 1 0"), None)
        self.mirrors(scene_of(BOX, "show a mirror"), ray_of("-3 0 0", "1 0 0"), None)
        self.mirrors(scene_of(BOX, "show a red move 0 0 1"), ray_of("-3 0 0", "1 0 0"), None)
        self.mirrors(scene_of("ball b 0 0 0 1", "show b red mirror"), ray_of("-3 0 0", "1 0 0"), None)
        self.mirrors(scene_of("ball b 0 0 0 1", "show b red mirror"), ray_of("-3 1/2 0", "1 0 0"), None)
        self.mirrors(scene_of(), ALONG, None)

    def test_a_mirror_with_a_ball_in_it(self):
        scene = scene_of("box a -1 -1 -1 1 1 1", "ball b 1 0 0 1", "join c a b", "show c red mirror")
        self.mirrors(scene, ray_of("5 0 0", "-1 0 0"), None)
        self.mirrors(scene, ray_of("-5 0 0", "1 0 0"), ray_of("-1 0 0", "-1 0 0"))
        scene = scene_of("box a -1 -1 -1 1 1 1", "ball b 1 0 0 1/2", "cut c a b", "show c red mirror")
        self.mirrors(scene, ray_of("5 0 0", "-1 0 0"), None)
        self.mirrors(scene, ray_of("5 3/4 0", "-1 0 0"), ray_of("1 3/4 0", "1 0 0"))

    def test_of_several_things_the_one_that_is_hit(self):
        rows = ("box a 2 -1 -1 3 1 1", "box b 4 -1 -1 5 1 1", "half c 1 0 0 -7")
        for shown, to, back in (
            (("show a red", "show b red mirror", "show c red mirror"), None, "-7 0 0"),
            (("show a red mirror", "show b red", "show c red"), "2 0 0", None),
            (("show c red", "show b red mirror"), "4 0 0", None),
        ):
            scene = scene_of(*rows, *shown)
            self.mirrors(scene, ALONG, None if to is None else (pt(to), pt("-1 0 0")))
            self.mirrors(scene, ray_of("0 0 0", "-1 0 0"), None if back is None else (pt(back), pt("1 0 0")))

    def test_random_worlds(self):
        source = random.Random(20)
        told = 0
        for turn in range(150):
            scene = read_scene(World(source, mirrors=0.9).text())
            for again in range(3):
                place = [source.randint(-9, 9) for axis in range(3)]
                ray = (pt(*place), pt(*[source.randint(-2, 2) + Fraction(1, 7) - one for one in place]))
                hit = first_hit(scene, (1, 2), ray)
                self.mirrors(scene, ray, plain_mirrored(scene, (1, 2), ray, hit), (1, 2))
                told += hit is not None and hit[1] is not None
        self.assertGreater(told, 150)


FACING = ("box a 5 -50 -50 6 50 50", "box b -6 -50 -50 -5 50 50", "show a red mirror", "show b blue mirror")


class Trace(Exactly):
    def test_two_mirrors_that_face_each_other(self):
        scene = scene_of(*FACING)
        told = trace(scene, NOW, ray_of("0 0 0", "1 1/5 0"))
        self.tells(told, (
            (ray_of("0 0 0", "1 1/5 0"), ("a", "a", 0, flat(5))),
            (ray_of("5 1 0", "-1 1/5 0"), ("b", "b", 1, flat(10))),
            (ray_of("-5 3 0", "1 1/5 0"), ("a", "a", 0, flat(10))),
            (ray_of("5 5 0", "-1 1/5 0"), ("b", "b", 1, flat(10))),
        ))
        self.assertEqual(len(told), MIRRORS + 1)

    def test_to_and_fro(self):
        scene = scene_of(*FACING)
        there, back = (ray_of("-5 0 0", "2 0 0"), ("a", "a", 0, flat(5))), (ray_of("5 0 0", "-2 0 0"), ("b", "b", 1, flat(5)))
        first = (ray_of("1 0 0", "2 0 0"), ("a", "a", 0, flat(2)))
        self.tells(trace(scene, NOW, first[0]), (first, back, there, back))

    def test_what_stops_it(self):
        scene = scene_of(*FACING, "ball c -3 0 0 1", "show c green mirror")
        self.tells(trace(scene, NOW, ALONG), (
            (ALONG, ("a", "a", 0, flat(5))), (ray_of("5 0 0", "-1 0 0"), ("c", "c", 0, rooted(8, -1, 1))),
        ))
        scene = scene_of(*FACING, "box c -3 -1 -1 -2 1 1", "show c green")
        self.tells(trace(scene, NOW, ALONG), (
            (ALONG, ("a", "a", 0, flat(5))), (ray_of("5 0 0", "-1 0 0"), ("c", "c", 1, flat(7))),
        ))
        scene = scene_of(*FACING[:1], FACING[2])
        self.tells(trace(scene, NOW, ALONG), ((ALONG, ("a", "a", 0, flat(5))), (ray_of("5 0 0", "-1 0 0"), None)))

    def test_no_hit_at_all(self):
        self.tells(trace(scene_of(*FACING), NOW, ray_of("0 0 0", "0 0 1")), ((ray_of("0 0 0", "0 0 1"), None),))
        self.tells(trace(scene_of(), NOW, ALONG), ((ALONG, None),))

    def test_within_a_mirror(self):
        inside = ray_of("11/2 0 0", "1 0 0")
        self.tells(trace(scene_of(*FACING), NOW, inside), ((inside, ("a", None, None, flat(0))),))

    def test_a_ray_that_begins_in_a_mirror_s_side(self):
        scene = scene_of(*FACING)
        into = ray_of("5 0 0", "1 0 1")
        self.tells(trace(scene, NOW, into), (
            (into, ("a", "a", 0, flat(0))), (ray_of("5 0 0", "-1 0 1"), ("b", "b", 1, flat(10))),
            (ray_of("-5 0 10", "1 0 1"), ("a", "a", 0, flat(10))), (ray_of("5 0 20", "-1 0 1"), ("b", "b", 1, flat(10))),
        ))
        away = ray_of("5 0 0", "-1 0 0")
        self.tells(trace(scene, NOW, away)[0], (away, ("b", "b", 1, flat(10))))
        along = ray_of("5 0 0", "0 1 0")
        self.tells(trace(scene, NOW, along), ((along, None),))

    def test_a_hit_at_nought_again(self):
        # The place of the first hit lies in the other half space's side, too.
        scene = scene_of("half h 1 0 0 0", "half k 0 1 0 0", "show h red mirror", "show k blue mirror")
        first = ray_of("1 1 5", "-1 -1 0")
        self.tells(trace(scene, NOW, first), (
            (first, ("h", "h", 0, flat(1))), (ray_of("0 0 5", "1 -1 0"), ("k", "k", 0, flat(0))), (ray_of("0 0 5", "1 1 0"), None),
        ))

    def test_at_once_at_three_sides(self):
        halves = ("half h 1 0 0 0", "half k 0 1 0 0", "half m 0 0 1 0", "half n 1 1 1 0")
        scene = scene_of(*halves, *[f"show {name} red mirror" for name in "hkm"])
        told = trace(scene, NOW, ray_of("1 1 1", "-1 -1 -1"))
        self.tells([(hit[0], hit[3]) if hit else None for ray, hit in told], [("h", flat(1)), ("k", flat(0)), ("m", flat(0)), None])
        self.tells(told[3][0], ray_of("0 0 0", "1 1 1"))
        scene = scene_of(*halves, "show h red mirror", "show n red mirror", "show k red mirror")
        ray = ray_of("1 1 1", "-1 -1 -1")
        self.tells(trace(scene, NOW, ray), plain_trace(scene, NOW, ray))

    def test_at_a_moment(self):
        scene = scene_of(*FACING[:2], "show a red mirror move 2 0 0", "show b blue mirror move 0 90 0")
        self.tells(trace(scene, (1, 2), ALONG), (
            (ALONG, ("a", "a", 0, flat(6))), (ray_of("6 0 0", "-1 0 0"), ("b", "b", 1, flat(11))),
            (ray_of("-5 0 0", "1 0 0"), ("a", "a", 0, flat(11))), (ray_of("6 0 0", "-1 0 0"), ("b", "b", 1, flat(11))),
        ))
        self.tells(trace(scene, (2, 1), ALONG), ((ALONG, ("a", "a", 0, flat(9))), (ray_of("9 0 0", "-1 0 0"), None)))

    def test_random_worlds(self):
        source = random.Random(21)
        lengths = []
        for turn in range(60):
            scene = read_scene(World(source, mirrors=0.9, room=True).text())
            ray = (pt(*[source.randint(-4, 4) for axis in range(3)]), pt(*[source.randint(-3, 3) + Fraction(1, 7) for axis in range(3)]))
            told = trace(scene, (1, 2), ray)
            self.tells(told, plain_trace(scene, (1, 2), ray))
            lengths.append(len(told))
        self.assertEqual(set(lengths), {1, 2, 3, 4})

    def test_great_numbers(self):
        great = fr(Fraction(10 ** 299 + 7, 7 ** 350))
        ray = ((fr(0), great, fr(Fraction(1, 10 ** 299 + 7))), (fr(1), fr("1/3"), great))
        scene = scene_of(*FACING)
        told = trace(scene, NOW, ray)
        self.tells(told, plain_trace(scene, NOW, ray))


class CellRay(Exactly):
    def look(self, columns, rows, place="0 0 0", corner="1 0 0", across="0 1 0", down="0 0 1"):
        return ("eye", pt(place), pt(corner), pt(across), pt(down), columns, rows)

    def test_one_cell(self):
        self.tells(cell_ray(self.look(1, 1), 0, 0), ray_of("0 0 0", "1 1/2 1/2"))
        look = self.look(1, 1, "1 2 3", "2 -1 5", "0 4 1", "1/3 0 -2")
        self.tells(cell_ray(look, 0, 0), ray_of("1 2 3", "7/6 -1 3/2"))

    def test_columns_go_across_and_rows_go_down(self):
        look = self.look(2, 3)
        for column, y in ((0, "1/4"), (1, "3/4")):
            for row, z in ((0, "1/6"), (1, "1/2"), (2, "5/6")):
                self.tells(cell_ray(look, column, row), ray_of("0 0 0", f"1 {y} {z}"))

    def test_twelve_by_twelve(self):
        look = self.look(12, 12, "-1 0 0", "0 -12 -12", "0 24 0", "0 0 24")
        for column, y in ((0, -11), (11, 11), (5, -1), (6, 1)):
            for row, z in ((0, -11), (11, 11), (5, -1), (6, 1)):
                self.tells(cell_ray(look, column, row), (pt("-1 0 0"), pt(1, y, z)))

    def test_ways_of_fractions(self):
        look = self.look(7, 12, "1/2 1/3 1/5", "7/2 -1/3 2/5", "1/7 2/3 0", "-1/11 0 5/13")
        for column in range(7):
            for row in range(12):
                self.tells(cell_ray(look, column, row), plain_ray(look, column, row))


class Cell(Exactly):
    rows = (
        "box a 2 -1 -1 3 1 1", "ball b 6 0 0 1", "show a red", "show b blue", "lamp l 0 0 0", "lamp m 4 5 0",
        "look eye -3 0 0 -2 -1 -1 0 2 0 0 0 2 3 3",
    )

    def test_a_hit_and_none(self):
        scene = scene_of(*self.rows)
        (look,) = scene[3]
        self.tells(cell(scene, NOW, look, 1, 1), (("a", "red", "a", 0, ("l",)),))
        self.tells(cell(scene, NOW, look, 0, 0), ())
        rim = ("slope", pt("4 0 0"), pt("5 -1/2 -1/2"), pt("0 1 0"), pt("0 0 1"), 1, 1)
        self.tells(cell(scene, NOW, rim, 0, 0), (("b", "blue", "b", 0, ("m",)),))

    def test_the_lamps_of_each_hit(self):
        scene = scene_of(*FACING, "lamp l 0 1/2 0", "lamp m 0 200 0", "lamp k 20 0 0")
        look = ("eye", pt("0 0 0"), pt("1 -3/10 -1/2"), pt("0 1 0"), pt("0 0 1"), 1, 1)
        self.tells(cell(scene, NOW, look, 0, 0), tuple(
            (name, colour, name, face, ("l", "m")) for name, colour, face in
            (("a", "red", 0), ("b", "blue", 1), ("a", "red", 0), ("b", "blue", 1))
        ))
        told = cell(scene, NOW, look, 0, 0)
        pairs = trace(scene, NOW, cell_ray(look, 0, 0))
        self.tells([hit[4] for hit in told], [reached(scene, NOW, ray, hit[3]) for ray, hit in pairs])

    def test_what_a_mirror_shows(self):
        scene = scene_of("half h 1 0 0 0", "show h red mirror", "ball b 9 5 0 1", "show b blue", "lamp l 9 0 0")
        look = ("eye", pt("9 -5 0"), pt("8 -49/9 -1"), pt("0 2 0"), pt("0 0 2"), 1, 1)
        self.tells(cell_ray(look, 0, 0), ray_of("9 -5 0", "-1 5/9 0"))
        self.tells(cell(scene, NOW, look, 0, 0), (("h", "red", "h", 0, ("l",)), ("b", "blue", "b", 0, ("l",))))

    def test_a_mirror_with_nothing_to_show(self):
        scene = scene_of("half h 1 0 0 0", "show h red mirror")
        look = ("eye", pt("9 0 0"), pt("8 -1 -1"), pt("0 2 0"), pt("0 0 2"), 1, 1)
        self.tells(cell(scene, NOW, look, 0, 0), (("h", "red", "h", 0, ()),))

    def test_a_place_within_a_thing(self):
        scene = scene_of("box a -1 -1 -1 1 1 1", "show a red mirror", "lamp l 0 0 1/2", "lamp m 0 0 0", "lamp n 9 0 0")
        look = ("eye", pt("0 0 0"), pt("1 -1 -1"), pt("0 2 0"), pt("0 0 2"), 2, 2)
        for column in (0, 1):
            self.tells(cell(scene, NOW, look, column, 1), (("a", "red", None, None, ("m",)),))
        row = ((("a", "red", None, None, ("m",)),),) * 2
        self.tells(picture(scene, NOW, look), (row, row))


class Picture(Exactly):
    def test_rows_of_rows(self):
        scene = scene_of("box a 2 0 0 3 9 9", "show a red", "box b 2 -9 -9 3 -1/2 -1/2", "show b blue")
        look = ("eye", pt("0 0 0"), pt("1 -1 -1"), pt("0 2 0"), pt("0 0 2"), 3, 2)
        a, b = (("a", "red", "a", 0, ()),), (("b", "blue", "b", 0, ()),)
        self.tells(picture(scene, NOW, look), ((b, (), ()), ((), (), a)))
        self.tells(picture(scene_of(), NOW, look), (((), (), ()), ((), (), ())))

    def test_a_picture_of_one_cell(self):
        scene = scene_of("box a 2 -1 -1 3 1 1", "show a red")
        look = ("eye", pt("0 0 0"), pt("1 -1 -1"), pt("0 2 0"), pt("0 0 2"), 1, 1)
        self.tells(picture(scene, NOW, look), (((("a", "red", "a", 0, ()),),),))

    def test_at_another_moment(self):
        scene = scene_of("box a 2 -1 -1 3 1 1", "show a red move 0 0 1", "lamp l 0 0 5")
        look = ("eye", pt("0 0 0"), pt("1 -1 -1"), pt("0 2 0"), pt("0 0 2"), 1, 3)
        a = (("a", "red", "a", 0, ("l",)),)
        for moment, rows in ((NOW, ((), a, ())), ((1, 2), ((), a, a)), ((1, 1), ((), (), a)), ((-1, 1), (a, (), ())),
                             ((9, 2), ((), (), ())), ((1, 3), ((), a, ())), ((-1, 2), (a, a, ()))):
            self.tells(picture(scene, moment, look), tuple((row,) for row in rows), moment)

    def test_each_cell_is_what_the_plain_reading_tells(self):
        source = random.Random(22)
        hits = []
        for turn in range(60):
            scene = read_scene(World(source, cells=(source.randint(1, 4), 3), room=turn % 2 == 0).text())
            for look in scene[3]:
                moment = source.choice(((0, 1), (1, 2), (-2, 3)))
                told = picture(scene, moment, look)
                self.tells(told, plain_picture(scene, moment, look))
                hits += [len(one) for row in told for one in row]
                column, row = source.randrange(look[5]), source.randrange(look[6])
                self.tells(cell(scene, moment, look, column, row), told[row][column])
        for length in range(MIRRORS + 2):
            self.assertGreater(hits.count(length), 3, length)

    def test_twelve_by_twelve(self):
        scene = read_scene(World(random.Random(23), cells=(12, 12), room=True).text())
        look = scene[3][0]
        told = picture(scene, NOW, look)
        self.assertEqual((len(told), {len(row) for row in told}), (12, {12}))
        for column, row in ((0, 0), (11, 0), (0, 11), (11, 11), (5, 7)):
            self.tells(told[row][column], cell(scene, NOW, look, column, row))
        self.tells(told, plain_picture(scene, NOW, look))


class Whole(Exactly):
    def test_a_scene_carried_elsewhere_has_the_same_picture(self):
        source = random.Random(24)
        for turn in range(30):
            world = World(source, room=turn % 2 == 0)
            here = read_scene(world.text())
            carry = Carry(source.choice("xyz"), source.choice(TURNS[1:]), world.around(9))
            there = read_scene(world.text(carry))
            self.assertNotEqual(here[3], there[3])
            for look, carried in zip(here[3], there[3]):
                self.tells(picture(there, (1, 2), carried), picture(here, (1, 2), look))

    def test_a_scene_at_a_moment_has_the_picture_of_the_scene_slid_so(self):
        source = random.Random(25)
        unlike = 0
        for turn in range(30):
            world = World(source, room=turn % 2 == 0)
            moment = source.choice(("1/2", "-1", "3", "-2/3"))
            moving, still = read_scene(world.text()), read_scene(world.text(frozen=moment))
            for look in moving[3]:
                told = picture(moving, fr(moment), look)
                self.tells(told, picture(still, NOW, look))
                self.tells(told, picture(still, (7, 5), look))
                unlike += told != picture(moving, NOW, look)
        self.assertGreater(unlike, 10)

    def test_each_cell_leads_to_its_lines(self):
        source = random.Random(26)
        hits = 0
        for turn in range(20):
            rows = World(source, room=turn % 2 == 0).rows()
            for extra in range(min(12, 80 - len(rows))):
                rows.insert(source.randint(0, len(rows)), source.choice(("", "   ", "# show a red", "#", "  #box a", "# ")))
            text = lines(*rows)
            scene = read_scene(text)
            first_words = [row.split()[:2] if not row.strip().startswith("#") else [] for row in rows]
            for look in scene[3]:
                for row in picture(scene, (1, 2), look):
                    for one in row:
                        wanted = []
                        for thing, colour, leaf, face, lit in one:
                            line = first_words.index(["show", thing])
                            bodies = [at for at, words in enumerate(first_words) if words[1:] == [leaf] and words[0] in ("box", "ball", "half")]
                            self.assertEqual(rows[line].split()[2], colour)
                            wanted.append((line, None if leaf is None else bodies[0]))
                        self.tells(lead(text, one), tuple(wanted))
                        hits += len(wanted)
        self.assertGreater(hits, 200)


class Calls(Exactly):
    def test_nothing_is_changed_and_the_same_is_told(self):
        scene = read_scene(World(random.Random(27), room=True).text())
        look = scene[3][0]
        ray = cell_ray(look, 1, 1)
        self.changes_nothing(mirrored, scene, (1, 2), ray, first_hit(scene, (1, 2), ray))
        self.changes_nothing(mirrored, scene, (1, 2), ray, None)
        self.changes_nothing(trace, scene, (1, 2), ray)
        self.changes_nothing(cell_ray, look, 2, 0)
        self.changes_nothing(cell, scene, (1, 2), look, 2, 0)
        self.changes_nothing(picture, scene, (1, 2), look)

    def test_names_and_arguments(self):
        for name, arguments in (
            ("mirrored", ["scene", "moment", "ray", "hit"]), ("trace", ["scene", "moment", "ray"]),
            ("cell_ray", ["look", "column", "row"]), ("cell", ["scene", "moment", "look", "column", "row"]),
            ("picture", ["scene", "moment", "look"]),
        ):
            function = getattr(cells, name)
            self.assertEqual(list(inspect.signature(function).parameters), arguments)
            self.assertEqual((function.__name__, function.__module__), (name, "scenetongue.cells"))


if __name__ == "__main__":
    unittest.main()
