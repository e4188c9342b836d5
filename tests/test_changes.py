"""Changes: what they touch, which cells they spare, pictures repaired, and where two states part."""
import inspect
import random
import unittest
from decimal import Decimal
from fractions import Fraction

import nearly
from helping import Exactly, lines, pt, ray_of, scene_of
from making import World, edited
from plainly import plain_picture
from scenetongue import changes
from scenetongue.cells import cell_ray, picture, trace
from scenetongue.changes import kept, parting, repaired, spared, touched
from scenetongue.reading import read_scene
from scenetongue.roots import compare
from scenetongue.trees import box_stretch

NOW = (0, 1)
ALONG = ray_of("0 0 0", "1 0 0")


def box(low, high):
    return (pt(low), pt(high))


BODIES = ("box a 0 0 0 1 1 1", "ball b 3 0 0 1", "half h 0 0 1 -9", "box d 5 5 5 6 6 6", "meet e a d")
SHOWN = ("show a red", "show b blue", "show h green", "lamp l 1 2 3", "lamp m 4 5 6")
A, B, D = box("0 0 0", "1 1 1"), box("2 -1 -1", "4 1 1"), box("5 5 5", "6 6 6")


class Touched(Exactly):
    def touches(self, old, new, wanted, moments=(NOW, NOW), bodies=(BODIES, BODIES)):
        states = [(scene_of(*made, *rows), moment) for made, rows, moment in zip(bodies, (old, new), moments)]
        self.tells(touched(*states), wanted, (old, new))

    def changed(self, at, row):
        return SHOWN[:at] + (row,) + SHOWN[at + 1:]

    def test_nothing(self):
        self.touches(SHOWN, SHOWN, ())
        self.touches(SHOWN, SHOWN, (), (NOW, (5, 3)))
        self.touches((), (), ())
        self.touches(SHOWN, SHOWN + ("look eye 0 0 0 1 0 0 0 1 0 0 0 1 2 2",), ())
        self.touches(SHOWN, ("# a", *SHOWN, ""), ())

    def test_a_body_that_isn_t_shown(self):
        self.touches(SHOWN, SHOWN, (), bodies=(BODIES, BODIES[:3] + ("box d 7 7 7 8 8 8",)))
        # Its number among the bodies matters not, and neither does a slide by nought.
        self.touches(SHOWN, SHOWN, (), bodies=(BODIES, BODIES[3::-1]))
        slid = ("box a 0 0 0 1 1 1", "slide s a 0 0 0", "turn t s z 1 0")
        self.touches(("show t red",), ("show t red",), (), bodies=(slid, slid[:1] + ("turn s a y 1 0", "slide t s 0 0 0")))

    def test_a_colour_and_a_mirror(self):
        self.touches(SHOWN, self.changed(0, "show a white"), (A, A))
        self.touches(SHOWN, self.changed(1, "show b blue mirror"), (B, B))
        self.touches(self.changed(1, "show b blue mirror"), SHOWN, (B, B))
        self.touches(self.changed(0, "show a red mirror"), self.changed(0, "show a red mirror"), ())

    def test_a_move(self):
        moving = self.changed(0, "show a red move 2 0 0")
        there = box("3 0 0", "4 1 1")
        self.touches(moving, moving, (A, there), (NOW, (3, 2)))
        self.touches(moving, moving, (there, A), ((3, 2), NOW))
        self.touches(moving, moving, (), ((3, 2), (3, 2)))
        # At nought the move matters not, and a move may make up for another moment.
        self.touches(SHOWN, moving, ())
        self.touches(moving, self.changed(0, "show a red move 6 0 0"), (), ((3, 2), (1, 2)))
        self.touches(SHOWN, moving, (A, there), ((3, 2), (3, 2)))

    def test_a_body(self):
        self.touches(SHOWN, SHOWN, (A, box("0 0 0", "1 1 2")), bodies=(BODIES, ("box a 0 0 0 1 1 2", *BODIES[1:])))
        # Bodies of other names make a thing another one, even where all looks alike.
        named = ("box x 0 0 0 1 1 1", "slide s x 0 0 0")
        self.touches(("show s red",), ("show s red",), (A, A), bodies=(named, ("box y 0 0 0 1 1 1", "slide s y 0 0 0")))
        shaped = ("box x 0 0 0 1 1 1", "join s x x")
        self.touches(("show s red",), ("show s red",), (A, A), bodies=(shaped, ("box x 0 0 0 1 1 1", "meet s x x")))

    def test_put_in_and_out(self):
        self.touches(SHOWN, ("show d red", *SHOWN), (D,))
        self.touches(SHOWN, (*SHOWN, "show d red"), (D,))
        self.touches(("show d red", *SHOWN), SHOWN, (D,))
        self.touches(SHOWN, SHOWN[1:], (A,))
        self.touches(SHOWN, ("show d red", *SHOWN[1:]), (A, D))
        self.touches((), ("show d red", "show b red", "show a red"), (D, B, A))
        self.touches(("show d red", "show b red", "show a red"), (), (D, B, A))

    def test_lamps(self):
        for lamps in (
            (), ("lamp l 1 2 3",), ("lamp m 4 5 6", "lamp l 1 2 3"), ("lamp l 1 2 3", "lamp m 4 5 7"), ("lamp l 1 2 3", "lamp k 4 5 6"),
            ("lamp l 1 2 3", "lamp m 4 5 6", "lamp n 0 0 0"),
        ):
            self.touches(SHOWN, SHOWN[:3] + lamps, None)
            self.touches(SHOWN[:3] + lamps, SHOWN, None)
            self.touches(SHOWN, ("show a white", *SHOWN[1:3], *lamps), None)

    def test_things_in_another_order(self):
        self.touches(SHOWN, (SHOWN[1], SHOWN[0], *SHOWN[2:]), None)
        self.touches(SHOWN, (SHOWN[0], SHOWN[2], SHOWN[1], *SHOWN[3:]), None)
        # A changed thing may stand anywhere, the others keep their order.
        self.touches(SHOWN, ("show b white", SHOWN[0], *SHOWN[2:]), (B, B))
        self.touches(SHOWN, (SHOWN[0], SHOWN[2], "show b white", *SHOWN[3:]), (B, B))
        self.touches(SHOWN, ("show d red", SHOWN[1], SHOWN[0], *SHOWN[2:]), None)
        self.touches(("show a red", "show b red"), ("show b red", "show a white"), (A, A))
        self.touches(("show a red", "show b red"), ("show b white", "show a white"), (A, B, B, A))

    def test_a_changed_thing_without_a_box(self):
        self.touches(SHOWN, self.changed(2, "show h white"), None)
        self.touches(SHOWN, self.changed(2, "show h green mirror"), None)
        self.touches(SHOWN, SHOWN[:2] + SHOWN[3:], None)
        self.touches(SHOWN[:2] + SHOWN[3:], SHOWN, None)
        endless = ("half x 1 0 0 0", "box y 0 0 0 1 1 1")
        self.touches(("show s red",), ("show s red",), None, bodies=((*endless, "join s x y"), (*endless, "meet s x y")))
        self.touches(("show s red",), ("show s red",), None, bodies=((*endless, "meet s x y"), (*endless, "join s x y")))
        self.touches(("show s red",), ("show s red",), (A, A), bodies=((*endless, "cut s y x"), (*endless, "meet s x y")))

    def test_an_empty_box_is_left_out(self):
        self.touches(SHOWN, (*SHOWN, "show e red"), ())
        self.touches((*SHOWN, "show e red"), (*SHOWN, "show e white"), ())
        self.touches((*SHOWN, "show e red"), (*SHOWN, "show d white"), (D,))
        self.touches(("show e red",), ("show e red",), (A,), bodies=(BODIES, BODIES[:4] + ("join e a a",)))

    def test_the_order_of_the_boxes(self):
        moving = tuple(row + " move 1 0 0" for row in ("show b red", "show d red", "show a red"))
        right = [box("3 -1 -1", "5 1 1"), box("6 5 5", "7 6 6"), box("1 0 0", "2 1 1")]
        self.touches(moving, moving, (B, D, A, *right), (NOW, (1, 1)))
        self.touches(moving, moving[::-1], (B, D, A, *right[::-1]), (NOW, (1, 1)))


WALL = ("box w 5 -9 -9 6 9 9", "show w red")


class Spared(Exactly):
    def is_spared(self, rows, boxes, wanted, ray=ALONG, moment=NOW):
        scene = scene_of(*rows)
        told = trace(scene, moment, ray)
        self.tells(spared(scene, moment, told, tuple(boxes)), wanted, (rows, boxes))

    def test_no_boxes(self):
        self.is_spared(WALL, (), True)
        self.is_spared((), (), True)
        self.is_spared((*WALL, "lamp l 0 0 0"), (), True)

    def test_missed_and_just_met(self):
        for low, high, wanted in (
            ("1 1 1", "2 2 2", True), ("1 1/1000 0", "2 2 2", True), ("1 0 0", "2 2 2", False), ("1 -1 -1", "2 0 0", False), ("1 -1 -1", "2 1 1", False),
            ("-2 -1 -1", "-1 1 1", True), ("-2 -1 -1", "0 1 1", False), ("-1 -1 -1", "1/9 1 1", False), ("1 0 0", "1 0 0", False), ("1 -1 -1", "2 -1/1000 1", True),
        ):
            self.is_spared(WALL, (box(low, high),), wanted)
            self.is_spared((), (box(low, high),), wanted)
            self.is_spared(WALL, (box("1 5 5", "2 6 6"), box(low, high)), wanted)
            self.is_spared(WALL, (box(low, high), box("1 5 5", "2 6 6")), wanted)

    def test_an_empty_box(self):
        self.is_spared((*WALL, "lamp l 0 0 0"), ((),), True)

    def test_behind_a_hit(self):
        for begin, wanted in (("7", True), ("500001/100000", True), ("5", False), ("499999/100000", False), ("6", True)):
            self.is_spared(WALL, (box(f"{begin} -1 -1", "8 1 1"),), wanted)
            self.is_spared((), (box(f"{begin} -1 -1", "8 1 1"),), False)

    def test_behind_a_hit_at_a_root_moment(self):
        # The ball is entered at 5 less the root of 3, that is at 3.26794919..
        rows = ("ball b 5 1 0 2", "show b red")
        for begin, wanted in (("65359/20000", True), ("163397/50000", False), ("4", True), ("3", False)):
            self.is_spared(rows, (box(f"{begin} -1 -1", "8 1 1"),), wanted)
        rows = ("ball b 5 0 0 2", "show b red")
        for begin, wanted in (("3", False), ("300001/100000", True)):
            self.is_spared(rows, (box(f"{begin} -1 -1", "8 1 1"),), wanted)

    def test_within_a_thing(self):
        rows = ("box w -1 -1 -1 1 1 1", "show w red")
        self.is_spared(rows, (box("1/1000 0 0", "1 1 1"),), True)
        self.is_spared(rows, (box("0 0 0", "1 1 1"),), False)

    def test_between_a_hit_and_a_lamp(self):
        # The hit is at 5 0 0, the lamp at 1 4 0: on the way x and y are 5 together.
        rows = (*WALL, "lamp l 1 4 0")
        for low, high, wanted in (
            ("2 2 -1", "4 4 1", False), ("3 2 0", "4 4 1", False), ("3 2 1/1000", "4 4 1", True), ("2 1 -1", "3 2 1", False), ("2 1 -1", "3 1999/1000 1", True),
            ("1 4 0", "2 5 1", False), ("0 4 0", "1 5 1", False), ("0 4001/1000 -1", "1 5 1", True), ("-3 5 -1", "0 8 1", True), ("0 3 -1", "999/1000 5 1", True),
            ("4 1 0", "4 1 0", False), ("4 1001/1000 0", "4 2 0", True), ("3 3 -1", "4 4 1", True), ("6 -2 -1", "7 -1 1", True),
        ):
            self.is_spared(rows, (box(low, high),), wanted)
            self.is_spared(WALL, (box(low, high),), True)
            self.is_spared(("lamp k 5 9 0", *rows, "lamp m 5 0 9"), (box(low, high),), wanted)

    def test_each_lamp_counts(self):
        lamps = ("lamp l 1 4 0", "lamp m 1 -4 0", "lamp n 1 0 4")
        at = {"l": box("2 2 -1", "4 4 1"), "m": box("2 -4 -1", "4 -2 1"), "n": box("2 -1 2", "4 1 4")}
        for name in "lmn":
            self.is_spared((*WALL, *lamps), (at[name],), False)
            self.is_spared((*WALL, *[row for row in lamps if row[5] != name]), (at[name],), True)
            self.is_spared((*WALL, *lamps), (box("-9 -9 -9", "-8 -8 -8"), at[name]), False)

    def test_a_lamp_at_the_place_itself(self):
        rows = (*WALL, "lamp l 5 0 0")
        self.is_spared(rows, (box("6 1 1", "7 2 2"),), True)
        self.is_spared(rows, (box("5 0 0", "7 2 2"),), False)
        self.is_spared(rows, (box("5001/1000 0 0", "7 2 2"),), True)
        self.is_spared(rows, (box("5 1/1000 0", "7 2 2"),), True)

    def test_a_hidden_lamp_counts_too(self):
        # Behind the wall: what stands within it may go, and the lamp be seen.
        self.is_spared((*WALL, "lamp l 9 0 0"), (box("7 -1 -1", "8 1 1"),), False)
        self.is_spared((*WALL, "lamp l 9 0 0"), (box("10 -1 -1", "11 1 1"),), True)

    def test_no_hit_no_lamps(self):
        self.is_spared(("lamp l 0 9 0",), (box("-1 4 -1", "1 5 1"),), True)

    def test_from_a_place_with_root_coordinates_to_a_lamp(self):
        # The hit is at 5 less the root of 3, 1, 0.
        rows, ray = ("ball b 5 0 0 2", "show b red", "lamp l 0 1 10"), ray_of("0 1 0", "1 0 0")
        for low, high, wanted in (
            ("0 1 5", "1 2 9", False), ("0 100001/100000 5", "1 2 9", True), ("0 0 5", "1 1 9", False), ("0 0 5", "1 99999/100000 9", True),
            ("0 0 10", "0 1 11", False), ("0 0 100001/10000", "0 1 11", True), ("-1 0 10", "0 2 10", False), ("-2 0 5", "-1/1000 2 10", True),
            # At the height 5 it is at half of 5 less the root of 3, that is at 1.633974596..
            ("163397/100000 0 5", "3 2 5", False), ("81699/50000 0 5", "3 2 5", True),
            ("1 0 5", "163397/100000 2 5", True), ("1 0 5", "81699/50000 2 5", False),
        ):
            self.is_spared(rows, (box(low, high),), wanted, ray)

    def test_a_lamp_that_stands_where_the_root_is(self):
        # The ball is entered at 3, written with a root; the lamp is there, too.
        rows = ("ball b 5 0 0 2", "show b red", "lamp l 3 0 0")
        self.is_spared(rows, (box("3 0 0", "4 1 1"),), False)
        self.is_spared(rows, (box("3001/1000 0 0", "4 1 1"),), True)

    def test_each_ray_of_a_trace_counts(self):
        rows = ("box a 5 -50 -50 6 50 50", "box b -6 -50 -50 -5 50 50", "show a red mirror", "show b blue mirror")
        # From 0 0 0 to 5 1 0, to -5 3 0, to 5 5 0, to -5 7 0.
        ray = ray_of("0 0 0", "1 1/5 0")
        for low, high, wanted in (
            ("2 0 -1", "3 1 1", False), ("0 2 -1", "1 3 1", False), ("0 4 -1", "0 4 1", False), ("0 6 -1", "0 6 1", False), ("0 8 -1", "1 9 1", True),
            ("-6 7001/1000 0", "-5 8 1", True), ("-6 7 0", "-5 8 1", False), ("0 6001/1000 -1", "0 7 1", True), ("0 3001/1000 -1", "0 3999/1000 1", True),
        ):
            self.is_spared(rows, (box(low, high),), wanted, ray)
        lamp = ("lamp l 5 7 9",)
        # The last hit is at -5 7 0: to the lamp y stays 7.
        self.is_spared((*rows, *lamp), (box("0 6 4", "0 8 5"),), False, ray)
        self.is_spared((*rows, *lamp), (box("0 6 6", "0 8 7"),), True, ray)

    def test_random_boxes_against_figures(self):
        source = random.Random(70)
        counts = {True: 0, False: 0}
        for turn in range(60):
            scene = read_scene(World(source, room=turn % 3 == 0).text())
            for look in scene[3]:
                told = trace(scene, (1, 2), cell_ray(look, source.randrange(3), source.randrange(3)))
                for again in range(6):
                    low = [Fraction(source.randint(-2, 0), 2) + edge for edge in halves_near(source, scene, told)]
                    one = (pt(*low), pt(*[edge + Fraction(source.randint(0, 3), 2) for edge in low]))
                    wanted = nearly_spared(scene, told, one)
                    self.tells(spared(scene, (1, 2), told, (one,)), wanted, (told, one))
                    counts[wanted] += 1
        self.assertGreater(min(counts.values()), 100, counts)


def halves_near(source, scene, told):
    """Halves near to a place on the way of a trace, or between a hit of it and a lamp."""
    ray, hit = source.choice(told)
    begin = nearly.near_point(ray[0])
    end = nearly.place_at(ray, 3 if hit is None else nearly.near_root(hit[3]))
    if hit is not None and source.random() < 0.6:
        begin = nearly.near_point(source.choice(scene[2])[1])
    part = Decimal(source.randint(0, 9)) / 8
    return [Fraction(round(2 * (one + part * (other - one))), 2) for one, other in zip(begin, end)]


def nearly_spared(scene, told, one):
    """Whether a box spares a trace, to many figures; moments nearer to each other than TINY count as one."""
    low, high = nearly.near_point(one[0]), nearly.near_point(one[1])
    for ray, hit in told:
        stretch = box_stretch(one, ray)
        if stretch is not None and (hit is None or nearly.near(stretch[0]) - nearly.near_root(hit[3]) < nearly.TINY):
            return False
        if hit is None:
            continue
        place = nearly.place_at(ray, nearly.near_root(hit[3]))
        for name, point in scene[2]:
            way = [goal - start for goal, start in zip(nearly.near_point(point), place)]
            if meets_nearly(low, high, place, way):
                return False
    return True


def meets_nearly(low, high, place, way):
    begin, end = Decimal(0), Decimal(1)
    for a, b, start, step in zip(low, high, place, way):
        if abs(step) < nearly.TINY:
            if start - b > nearly.TINY or a - start > nearly.TINY:
                return False
            continue
        sides = sorted(((a - start) / step, (b - start) / step))
        begin, end = max(begin, sides[0]), min(end, sides[1])
    return begin - end < nearly.TINY


def random_change(source, **more):
    """Two states, the new one a change or a few of the old one, and the looks of both."""
    rows = World(source, **more).rows()
    changed = rows
    for again in range(source.choice((1, 1, 1, 2, 3))):
        changed = edited(source, changed)
    moments = [source.choice(((0, 1), (1, 2), (1, 3))) for state in range(2)]
    old, new = (read_scene(lines(*rows)), moments[0]), (read_scene(lines(*changed)), source.choice((moments[0], moments[0], moments[1])))
    return old, new, old[0][3]


class Kept(Exactly):
    def test_rows_of_truths(self):
        old = (scene_of("box a 5 0 0 6 1 1", "show a red", "box b 5 -3 -3 6 -2 -2", "show b red"), NOW)
        new = (scene_of("box a 5 0 0 6 1 1", "show a blue", "box b 5 -3 -3 6 -2 -2", "show b red"), NOW)
        look = ("eye", pt("0 0 0"), pt("5 -3 -3"), pt("0 6 0"), pt("0 0 6"), 6, 3)
        # The rays come to y of -2.5 to 2.5 and z of -2, 0 and 2 at 5, and to 6/5 of that at 6.
        self.tells(kept(old, new, look), (
            (True, True, True, True, True, True), (True, True, True, False, True, True), (True, True, True, True, True, True),
        ))
        self.tells(kept(old, old, look), ((True,) * 6,) * 3)
        moved = (scene_of("box a 5 0 0 6 1 1", "show a red", "box b 5 -3 -3 6 -2 -2", "show b red move 0 3 3"), (1, 1))
        self.tells(kept(old, moved, look), (
            (False, True, True, True, True, True), (True, True, True, False, True, True), (True, True, True, True, True, True),
        ))

    def test_rows_of_false_where_anything_may_be_touched(self):
        rows = ("box a 5 0 0 6 1 1", "show a red", "half h 0 0 1 -99", "show h red", "lamp l 1 2 3")
        look = ("eye", pt("0 0 0"), pt("5 -3 -3"), pt("0 6 0"), pt("0 0 6"), 2, 3)
        for changed in ((*rows[:4], "lamp l 1 2 4"), rows[:2], (*rows[:3], "show h blue", rows[4]), (rows[0], rows[2], rows[3], rows[1], rows[4])):
            self.tells(kept((scene_of(*rows), NOW), (scene_of(*changed), NOW), look), ((False,) * 2,) * 3)

    def test_random_changes(self):
        source = random.Random(71)
        counts = {True: 0, False: 0}
        for turn in range(150):
            old, new, looks = random_change(source, room=turn % 4 == 0)
            boxes = touched(old, new)
            for look in looks:
                told = kept(old, new, look)
                wanted = tuple(
                    tuple(boxes is not None and spared(*old, trace(*old, cell_ray(look, column, row)), boxes) for column in range(look[5]))
                    for row in range(look[6])
                )
                self.tells(told, wanted)
                if boxes:
                    for row in told:
                        for one in row:
                            counts[one] += 1
        self.assertGreater(min(counts.values()), 150, counts)

    def test_a_cell_that_is_spared_is_the_same_and_has_the_same_trace(self):
        source = random.Random(72)
        same = 0
        for turn in range(120):
            old, new, looks = random_change(source, room=turn % 3 == 0)
            for look in looks:
                before, after = picture(*old, look), picture(*new, look)
                for row, truths in enumerate(kept(old, new, look)):
                    for column, is_kept in enumerate(truths):
                        if is_kept:
                            self.tells(after[row][column], before[row][column])
                            rays = [trace(*state, cell_ray(look, column, row)) for state in (old, new)]
                            self.assert_same_trace(*rays)
                            same += 1
        self.assertGreater(same, 500)

    def assert_same_trace(self, one, other):
        self.tells([(ray, hit and hit[:3]) for ray, hit in one], [(ray, hit and hit[:3]) for ray, hit in other])
        for (ray, mine), (other_ray, yours) in zip(one, other):
            if mine is not None:
                self.assertEqual(compare(mine[3], yours[3]), 0)


class Repaired(Exactly):
    def test_a_few_cells(self):
        rows = ("box a 5 0 0 6 1 1", "show a red", "box b 5 -3 -3 6 -2 -2", "show b red")
        old, new = (scene_of(*rows), NOW), (scene_of(rows[0], "show a blue", *rows[2:]), NOW)
        look = ("eye", pt("0 0 0"), pt("5 -3 -3"), pt("0 6 0"), pt("0 0 6"), 6, 6)
        told, asked = repaired(old, new, look, picture(*old, look))
        self.tells(told, plain_picture(*new, look))
        self.assertEqual(told[3][3], (("a", "blue", "a", 0, ()),))
        self.tells(asked, sum(row.count(False) for row in kept(old, new, look)))
        self.assertTrue(0 < asked < 9)

    def test_cells_that_are_spared_are_taken_from_the_picture(self):
        rows = ("box a 5 0 0 6 1 1", "show a red", "box b 5 -3 -3 6 -2 -2", "show b red")
        old, new = (scene_of(*rows), NOW), (scene_of(rows[0], "show a blue", *rows[2:]), NOW)
        look = ("eye", pt("0 0 0"), pt("5 -3 -3"), pt("0 6 0"), pt("0 0 6"), 6, 6)
        marked = tuple(tuple((column, row) for column in range(6)) for row in range(6))
        told, asked = repaired(old, new, look, marked)
        fresh = picture(*new, look)
        for row, truths in enumerate(kept(old, new, look)):
            for column, is_kept in enumerate(truths):
                self.tells(told[row][column], (column, row) if is_kept else fresh[row][column])

    def test_nothing_and_all(self):
        scene = read_scene(World(random.Random(73), cells=(3, 2)).text())
        for look in scene[3]:
            before = picture(scene, (1, 2), look)
            self.tells(repaired((scene, (1, 2)), (scene, (1, 2)), look, before), (before, 0))
            other = scene[:2] + (scene[2][:-1],) + scene[3:]
            self.tells(repaired((scene, (1, 2)), (other, (1, 2)), look, before), (picture(other, (1, 2), look), 6))

    def test_random_changes(self):
        source = random.Random(74)
        some = 0
        for turn in range(150):
            old, new, looks = random_change(source, room=turn % 4 == 0)
            for look in looks:
                told, asked = repaired(old, new, look, picture(*old, look))
                self.tells(told, picture(*new, look))
                self.tells(asked, sum(row.count(False) for row in kept(old, new, look)))
                some += 0 < asked < look[5] * look[6]
        self.assertGreater(some, 40)

    def test_change_behind_change(self):
        source = random.Random(75)
        for turn in range(12):
            rows, moment = World(source, room=turn % 4 == 0).rows(), (0, 1)
            state = (read_scene(lines(*rows)), moment)
            pictures = {look: picture(*state, look) for look in state[0][3]}
            for again in range(8):
                rows = edited(source, rows)
                moment = source.choice((moment, moment, (1, 2), (0, 1)))
                new = (read_scene(lines(*rows)), moment)
                for look in pictures:
                    pictures[look], asked = repaired(state, new, look, pictures[look])
                state = new
            for look in pictures:
                self.tells(pictures[look], plain_picture(*state, look))


class Parting(Exactly):
    def states(self, *colours):
        """A wall of four boxes, the two upper ones and the two lower ones, of these colours."""
        places = ("5 -9 -9 6 -1 -1", "5 1 -9 6 9 -1", "5 -9 1 6 -1 9", "5 1 1 6 9 9")
        rows = [f"box {name} {place}" for name, place in zip("abcd", places)]
        return (scene_of(*rows, *[f"show {name} {colour}" for name, colour in zip("abcd", colours)]), NOW)

    near = ("near", pt("0 0 0"), pt("1 -1 -1"), pt("0 2 0"), pt("0 0 2"), 2, 2)
    past = ("past", pt("0 0 0"), pt("-1 -1 -1"), pt("0 2 0"), pt("0 0 2"), 3, 3)
    wide = ("wide", pt("0 0 0"), pt("1 -1 -1"), pt("0 2 0"), pt("0 0 2"), 4, 2)
    tall = ("tall", pt("0 0 0"), pt("1 -1 -1"), pt("0 2 0"), pt("0 0 2"), 2, 4)

    def parts(self, one, other, looks, wanted):
        self.tells(parting(one, other, looks), wanted)
        self.tells(parting(other, one, looks), wanted)

    def test_none(self):
        one = self.states("red", "red", "red", "red")
        for looks in ((), (self.near,), (self.near, self.past, self.wide)):
            self.parts(one, one, looks, None)
        self.parts(one, self.states("blue", "blue", "blue", "blue"), (self.past, self.past), None)
        self.parts(one, self.states("blue", "blue", "blue", "blue"), (), None)

    def test_by_rows_then_columns(self):
        one = self.states("red", "red", "red", "red")
        for colours, wanted in (
            ("blue red red red", (0, 0, 0)), ("red blue red red", (0, 1, 0)), ("red red blue red", (0, 0, 1)), ("red red red blue", (0, 1, 1)),
            ("red blue blue red", (0, 1, 0)), ("red red blue blue", (0, 0, 1)), ("red blue red blue", (0, 1, 0)), ("blue blue blue blue", (0, 0, 0)),
        ):
            other = self.states(*colours.split())
            self.parts(one, other, (self.near,), wanted)
            self.parts(one, other, (self.past, self.near), (1,) + wanted[1:])
            self.parts(one, other, (self.near, self.past), wanted)
            self.parts(one, other, (self.wide, self.near), (0, 2 * wanted[1], wanted[2]))
            self.parts(one, other, (self.tall, self.near), (0, wanted[1], 2 * wanted[2]))
            self.parts(one, other, (self.past, self.past, self.wide, self.near), (2, 2 * wanted[1], wanted[2]))

    def test_of_lamps_and_moments(self):
        scene = scene_of("box a 5 -9 -9 6 9 9", "show a red move 0 17 0", "lamp l 0 0 9")
        other = scene_of("box a 5 -9 -9 6 9 9", "show a red move 0 17 0", "lamp k 0 0 9")
        self.parts((scene, NOW), (other, NOW), (self.near,), (0, 0, 0))
        self.parts((scene, NOW), (scene, (1, 2)), (self.near,), (0, 0, 0))
        self.parts((scene, NOW), (scene, (1, 1000)), (self.near,), None)

    def test_random_worlds(self):
        source = random.Random(76)
        parted = 0
        for turn in range(60):
            old, new, looks = random_change(source)
            wanted = None
            for number, look in enumerate(looks):
                mine, yours = picture(*old, look), picture(*new, look)
                unlike = [(row, column) for row in range(look[6]) for column in range(look[5]) if mine[row][column] != yours[row][column]]
                if unlike and wanted is None:
                    wanted = (number, unlike[0][1], unlike[0][0])
            self.parts(old, new, looks, wanted)
            parted += wanted is not None
        self.assertTrue(10 < parted < 55, parted)


class Calls(Exactly):
    def test_nothing_is_changed_and_the_same_is_told(self):
        old, new, looks = random_change(random.Random(77))
        look = looks[0]
        self.changes_nothing(touched, old, new)
        self.changes_nothing(spared, *old, trace(*old, cell_ray(look, 1, 1)), (box("0 0 0", "1 1 1"),))
        self.changes_nothing(kept, old, new, look)
        self.changes_nothing(repaired, old, new, look, picture(*old, look))
        self.changes_nothing(parting, old, new, looks)

    def test_names_and_arguments(self):
        for name, arguments in (
            ("touched", ["old", "new"]), ("spared", ["scene", "moment", "trace", "boxes"]), ("kept", ["old", "new", "look"]),
            ("repaired", ["old", "new", "look", "picture"]), ("parting", ["one", "other", "looks"]),
        ):
            function = getattr(changes, name)
            self.assertEqual(list(inspect.signature(function).parameters), arguments)
            self.assertEqual((function.__name__, function.__module__), (name, "scenetongue.changes"))


if __name__ == "__main__":
    unittest.main()
