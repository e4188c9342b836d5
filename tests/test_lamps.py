"""Lamps: which reach a place, also one with root coordinates."""
import inspect
import random
import unittest
from fractions import Fraction

import nearly
from helping import Exactly, flat, fr, lines, pt, ray_of, rooted
from scenetongue import lamps
from scenetongue.hits import first_hit
from scenetongue.lamps import reached
from scenetongue.laying import laid_out
from scenetongue.reading import read_scene

NOW = (0, 1)
ALONG = ray_of("0 0 0", "1 0 0")


class LampCase(Exactly):
    def lit(self, rows, ray, t, wanted, moment=NOW):
        """wanted: the names of the lamps, with blanks between."""
        self.tells(reached(read_scene(lines(*rows)), moment, ray, t), tuple(wanted.split()), (rows, ray, t))


class Plain(LampCase):
    wall = ("box w 2 -1 -1 3 1 1", "show w red")

    def test_nothing_between(self):
        self.lit(("lamp l 5 0 0",), ALONG, flat(1), "l")
        self.lit(("lamp l 5 0 0", "lamp k -5 1 0"), ALONG, flat(1), "l k")
        self.lit((), ALONG, flat(1), "")
        self.lit((*self.wall, "lamp l 0 5 0"), ALONG, flat(1), "l")

    def test_a_box_between(self):
        for t, wanted in ((-1, ""), (0, ""), (1, ""), (2, ""), ("5/2", ""), (3, "l"), (4, "l"), (5, "l"), (9, "l")):
            self.lit((*self.wall, "lamp l 5 0 0"), ALONG, flat(t), wanted)

    def test_a_lamp_at_the_place_itself(self):
        for lamp in ("0 0 0", "5/2 0 0", "2 0 0", "3 0 0"):
            x = lamp.split()[0]
            self.lit((*self.wall, f"lamp l {lamp}"), ALONG, flat(x), "l")
        self.lit(("half h 0 0 1 9", "show h red", "lamp l 1 0 0"), ALONG, flat(1), "l")
        self.lit(("half h 0 0 1 9", "show h red", "lamp l 1 0 0"), ALONG, flat("999999/1000000"), "")

    def test_a_thing_that_touches_at_0_or_at_1_alone(self):
        # The wall begins at 2 and ends at 3: seen from 2 to a lamp ahead of it, from 3 to one behind it.
        self.lit((*self.wall, "lamp l 1 0 0"), ALONG, flat(2), "l")
        self.lit((*self.wall, "lamp l 9 0 0"), ALONG, flat(3), "l")
        self.lit((*self.wall, "lamp l 2 0 0"), ALONG, flat(0), "l")
        self.lit((*self.wall, "lamp l 3 0 0"), ALONG, flat(9), "l")
        self.lit((*self.wall, "lamp l 3 0 0"), ALONG, flat(0), "")
        self.lit((*self.wall, "lamp l 2 0 0"), ALONG, flat(9), "")
        self.lit((*self.wall, "lamp l 2 1/2 0"), ray_of("0 0 0", "1 0 0"), flat(2), "l")
        self.lit((*self.wall, "lamp l 2 9 0"), ray_of("2 -9 0", "0 1 0"), flat(0), "l")

    def test_along_an_edge_and_through_a_corner(self):
        self.lit((*self.wall, "lamp l 5 1 1"), ray_of("0 1 1", "1 0 0"), flat(0), "l")
        self.lit((*self.wall, "lamp l 5 1 0"), ray_of("0 1 0", "1 0 0"), flat(0), "l")
        self.lit((*self.wall, "lamp l 3 2 0"), ray_of("1 0 0", "1 0 0"), flat(0), "l")
        self.lit((*self.wall, "lamp l 3 2 0"), ray_of("2 0 0", "1 0 0"), flat(0), "")

    def test_a_thing_s_own_faces(self):
        for t, wanted in ((2, "l"), (3, "k")):
            self.lit((*self.wall, "lamp l -5 0 0", "lamp k 9 0 0"), ALONG, flat(t), wanted)
        self.lit((*self.wall, "lamp l -5 7 0", "lamp k 9 7 0"), ALONG, flat(2), "l")

    def test_half_spaces(self):
        ground = ("half g 0 0 1 0", "show g red")
        down = ray_of("0 0 5", "0 0 -1")
        self.lit((*ground, "lamp l 3 3 1", "lamp k 3 3 -1", "lamp m 3 3 0"), down, flat(5), "l m")
        self.lit((*ground, "lamp l 3 3 1", "lamp k 3 3 -1", "lamp m 3 3 0"), down, flat(4), "l m")
        self.lit((*ground, "lamp l 3 3 1", "lamp k 3 3 -1", "lamp m 3 3 0"), down, flat(6), "")

    def test_balls(self):
        ball = ("ball b 0 0 0 2", "show b red")
        for place, lamp, wanted in (
            ("-5 0 0", "5 0 0", ""), ("-5 2 0", "5 2 0", "l"), ("-5 1 0", "5 1 0", ""), ("-5 3 0", "5 3 0", "l"),
            ("-2 0 0", "-5 0 0", "l"), ("-2 0 0", "5 0 0", ""), ("-2 0 0", "-2 9 0", "l"), ("-2 0 0", "-1 9 0", ""),
            ("-5 0 0", "-2 0 0", "l"), ("-5 0 0", "-3/2 0 0", ""), ("-5 0 0", "-3 0 0", "l"), ("0 0 0", "0 0 1", ""),
            ("0 0 0", "0 0 5", ""), ("3 0 0", "5 0 0", "l"),
        ):
            self.lit((*ball, f"lamp l {lamp}"), ray_of(place, "0 0 1"), flat(0), wanted)

    def test_shapes(self):
        pipe = ("box a 2 -2 -2 3 2 2", "box b 1 -1 -1 4 1 1", "cut c a b", "show c red")
        self.lit((*pipe, "lamp l 9 0 0"), ALONG, flat(0), "l")
        self.lit((*pipe, "lamp l 9 3/2 0"), ray_of("0 3/2 0", "1 0 0"), flat(0), "")
        self.lit((*pipe, "lamp l 9 1 0"), ray_of("0 1 0", "1 0 0"), flat(0), "")
        two = ("box a 2 -1 -1 3 1 1", "box b 3 -1 -1 4 1 1", "{} c a b", "show c red", "lamp l 9 0 0")
        for word, wanted in (("join", ""), ("cut", ""), ("meet", "l")):
            self.lit([row.format(word) for row in two], ALONG, flat(0), wanted)

    def test_a_body_that_is_not_shown_hides_nothing(self):
        self.lit((self.wall[0], "lamp l 5 0 0"), ALONG, flat(0), "l")

    def test_things_that_move(self):
        rows = ("box w 2 -1 -1 3 1 1", "show w red move 0 1 0", "lamp l 5 0 0")
        for moment, wanted in (((0, 1), ""), ((1, 1), "l"), ((1, 2), ""), ((-1, 1), "l"), ((-999, 1000), ""), ((7, 1), "l")):
            self.lit(rows, ALONG, flat(0), wanted, moment)

    def test_names_in_the_scene_s_order(self):
        rows = (*self.wall, "lamp z 0 5 0", "lamp m 9 0 0", "lamp a 0 -5 0")
        self.lit(rows, ALONG, flat(0), "z a")
        self.lit(rows, ALONG, flat(3), "m")
        self.lit(("lamp c 1 1 1", "lamp b 2 2 2", "lamp a 0 0 0"), ALONG, flat(3), "c b a")

    def test_t_otherwise_written(self):
        for t in (rooted(2, 0, 0), rooted(0, 1, 4), rooted(2, 7, 0), rooted(2, 0, 7), rooted(1, 2, "1/4"), rooted(4, -1, 4)):
            self.lit((*self.wall, "lamp l 1 0 0", "lamp k 2 0 0", "lamp m 9 0 0"), ALONG, t, "l k")


class Roots(LampCase):
    """The place is at 1 0 0 times root 2, or the like."""

    def test_a_lamp_beside_the_place(self):
        self.lit(("half h 0 0 1 9", "show h red", "lamp l 1 0 0", "lamp k 2 0 0"), ALONG, rooted(0, 1, 2), "")
        self.lit(("half h 0 0 1 9", "show h red", "lamp l 1 0 0", "lamp k 2 0 0"), ALONG, rooted(0, 1, 4), "k")
        self.lit(("half h 0 0 1 9", "show h red", "lamp l 1 0 0", "lamp k 2 0 0"), ALONG, rooted(-1, 2, 1), "l")

    def test_boxes_around_the_place(self):
        # Root 2 lies between 1.41421 and 1.414214.
        for low, high, wanted in (
            ("707107/500000", "5", "k"), ("0", "141421/100000", "l"), ("7/5", "5", ""), ("0", "3/2", ""), ("2", "3", "k"),
            ("0", "1", "l"), ("9", "10", "l k"), ("-10", "-9", "l k"), ("141421/100000", "707107/500000", ""),
        ):
            rows = (f"box a {low} -1 -1 {high} 1 1", "show a red", "lamp l 9 0 0", "lamp k -9 0 0")
            self.lit(rows, ALONG, rooted(0, 1, 2), wanted)

    def test_a_ball_s_own_face(self):
        ball = ("ball b 3 0 0 2", "show b red")
        ray = ray_of("0 1 0", "1 0 0")
        front, back = rooted(3, -1, 3), rooted(3, 1, 3)
        lamps_around = ("lamp l -5 1 0", "lamp k 9 1 0", "lamp m 3 9 0")
        self.lit((*ball, *lamps_around), ray, front, "l m")
        self.lit((*ball, *lamps_around), ray, back, "k m")
        self.lit((*ball, "lamp l 1 3 0", "lamp k 2 3 0", "lamp m 1 1 9"), ray, front, "l k m")
        self.lit((*ball, "lamp l 3 0 0", "lamp k 1 -9 0", "lamp m 3 1 5"), ray, front, "")
        self.lit((*ball, "lamp l 2 2 5", "lamp k 2 3 5"), ray, front, "k")

    def test_a_lamp_in_the_plane_that_touches_a_ball(self):
        # The place is at root 2, root 2, 0 of the ball of radius 2: a lamp at c, -c, .. beside it lies in the plane.
        ball = ("ball b 0 0 0 2", "show b red")
        ray = ray_of("0 0 0", "1 1 0")
        self.lit((*ball, "lamp l 0 0 9"), ray, rooted(0, 1, 2), "")
        # Between a place and itself moved along z the plane is x + y = 2 root 2, which no point has.
        self.lit((*ball, "lamp l 1 1 9", "lamp k 2 1 0", "lamp m 3 0 0"), ray, rooted(0, 1, 2), "k m")
        self.lit((*ball, "lamp l 28/10 0 0".replace("28/10", "14/5"), "lamp k 283/100 0 0"), ray, rooted(0, 1, 2), "k")

    def test_a_box_s_face_at_a_root(self):
        # Seen from outside through a slanted half space whose plane is met at a root of the ball's.
        rows = ("ball b 0 0 0 2", "half h 1 1 0 2", "meet c b h", "show c red", "lamp l 9 9 0", "lamp k 1 1 9", "lamp m -9 -9 0")
        ray = ray_of("-5 1 0", "1 0 0")
        self.lit(rows, ray, rooted(5, -1, 3), "m")
        self.lit(rows, ray, flat(6), "l k")

    def test_a_box_between_at_root_moments(self):
        ball = ("ball b 0 0 0 2", "show b red")
        ray = ray_of("-9 1 0", "1 0 0")
        place = rooted(9, -1, 3)
        # From -root 3, 1, 0 to -9 9 0: at y = 5 it is halfway, at x = (-9 - root 3) / 2, that is -5.36602..; at y = 6
        # it is at -6.2745..
        for low, high, wanted in (
            ("-8", "-6275/1000", "l"), ("-8", "-6274/1000", ""), ("-5367/1000", "-5", ""), ("-5366/1000", "-5", "l"),
            ("-6", "-11/2", ""), ("-5", "5", "l"),
        ):
            wall = (f"box w {Fraction(low)} 5 -1 {Fraction(high)} 6 1", "show w red")
            self.lit((*ball, *wall, "lamp l -9 9 0"), ray, place, wanted)

    def test_two_balls_of_unlike_roots_between(self):
        # Two balls that share a moment or two with each other, joined, cut and met, seen from a place at a root.
        ray = ray_of("-9 1 0", "1 0 0")
        for word in ("join", "cut", "meet"):
            for middle in ("-5 5 0", "-5 5 1/2", "-11/2 5 0", "-6 6 0", "-5 11/2 1"):
                rows = ("ball b 0 0 0 2", "show b red", "ball c -5 5 0 1", f"ball d {middle} 11/10", f"{word} e c d", "show e red",
                        f"{word} f d c", "show f red", "lamp l -9 9 0", "lamp k -9 10 0", "lamp m -8 9 0")
                check_against_figures(self, read_scene(lines(*rows)), NOW, ray, rooted(9, -1, 3))


def check_against_figures(case, scene, moment, ray, t):
    """Holds reached against the same reading to 150 figures; tells how many lamps are hidden."""
    things = [laid_out(scene, scene[0][thing[0]][0], moment) for thing in scene[1]]
    place = nearly.place_at(ray, nearly.near_root(t))
    wanted = []
    for name, point in scene[2]:
        goal = nearly.near_point(point)
        if nearly.is_same_place(place, goal) or not nearly.is_hidden(things, place, goal):
            wanted.append(name)
    case.tells(reached(scene, moment, ray, t), tuple(wanted), (scene, moment, ray, t))
    return len(scene[2]) - len(wanted)


def random_scene(source):
    """A few leaves in things, near nought, and three lamps farther out."""
    rows = ["box a -1 -1 -1 1 1 1", "ball b 0 0 0 1", "half h 1 1 0 -3", "turn c a z 3/5 4/5", "ball d 1 0 0 3/2"]
    for name in "efg":
        word = source.choice(("join", "cut", "meet"))
        where = " ".join(str(source.randint(-2, 2)) for place in range(3))
        rows.append(f"slide {name} {source.choice('abcd')} {where}")
        if source.random() < 0.6:
            rows.append(f"{word} {name}{name} {name} {source.choice('abcdabcdh')}")
            rows.append(f"show {name}{name} red move 0 1 0")
        else:
            rows.append(f"show {name} red")
    for name in "lmn":
        rows.append(f"lamp {name} " + " ".join(str(source.randint(-4, 4)) for place in range(3)))
    return read_scene(lines(*rows))


class AgainstFigures(Exactly):
    def test_random_places(self):
        source = random.Random(11)
        hidden = asked = 0
        for turn in range(600):
            scene = random_scene(source)
            ray = (pt(*[source.randint(-4, 4) for place in range(3)]), pt(source.choice(("1 0 0", "1 -1 0", "1 2 3", "0 0 -1/2"))))
            t = rooted(source.randint(-4, 4), source.choice((-1, 0, 1, "1/2")), source.choice((0, 1, 2, 3, "1/2", 4, "9/4")))
            hidden += check_against_figures(self, scene, source.choice(((0, 1), (1, 2))), ray, t)
            asked += 3
        self.assertTrue(100 < hidden < asked - 100, (hidden, asked))

    def test_places_of_hits(self):
        source = random.Random(12)
        hidden = asked = rooted_ones = 0
        for turn in range(400):
            scene = random_scene(source)
            place = [source.randint(-9, 9) for place in range(3)]
            ray = (pt(*place), pt(*[source.randint(-1, 1) - one + Fraction(1, 3) for one in place]))
            hit = first_hit(scene, NOW, ray)
            if hit is not None:
                hidden += check_against_figures(self, scene, NOW, ray, hit[3])
                asked += 3
                rooted_ones += hit[3][1] != (0, 1)
        self.assertTrue(100 < hidden < asked - 100, (hidden, asked))
        self.assertGreater(rooted_ones, 100)


class Great(LampCase):
    def test_numbers_of_300_figures(self):
        great = Fraction(10 ** 299 + 7, 7 ** 354)
        tiny = Fraction(1, 10 ** 299 + 7)
        rows = ("ball b 0 0 0 2", "show b red", "box w 3 -1 -1 4 1 1", "show w red", "lamp l 9 0 0", "lamp k 3 9 0")
        ray = (pt(5, tiny, 0), pt(great, 0, 0))
        self.lit(rows, ray, (fr(0), fr(0), fr(0)), "l k")
        self.lit(rows, ray, (fr(1), fr(tiny), fr(great)), "l k")
        self.lit(rows, ray, (fr(-3 / great), fr(tiny), fr(great)), "k")

    def test_places_by_a_hair_on_either_side(self):
        # The place is just ahead of, at, and just behind the wall's side at 2.
        rows = ("box w 2 -1 -1 3 1 1", "show w red", "lamp l 0 0 0", "lamp k 9 0 0")
        tiny = Fraction(1, 10 ** 299 + 7)
        for t, wanted in (
            (rooted(2, -tiny, 2), "l"), (rooted(2, tiny, 2), ""), (rooted(2, 0, 2), "l"), (rooted(3, tiny, 2), "k"),
            (rooted(3, -tiny, 2), ""), (rooted(0, 1, 4 + tiny), ""), (rooted(0, 1, 4 - tiny), "l"), (rooted(0, 1, 4), "l"),
            (rooted(0, 1, 9 + tiny), "k"), (rooted(0, 1, 9 - tiny), ""),
        ):
            self.lit(rows, ALONG, t, wanted)


class Calls(Exactly):
    def test_nothing_is_changed_and_the_same_is_told(self):
        scene = random_scene(random.Random(13))
        for t in (flat(2), rooted(1, -1, 2), rooted(0, 1, 4)):
            self.changes_nothing(reached, scene, (1, 2), ALONG, t)

    def test_name_and_arguments(self):
        self.assertEqual(list(inspect.signature(reached).parameters), ["scene", "moment", "ray", "t"])
        self.assertEqual((lamps.reached.__name__, lamps.reached.__module__), ("reached", "scenetongue.lamps"))


if __name__ == "__main__":
    unittest.main()
