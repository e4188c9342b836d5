"""Hits: of one thing, the first of all, and what is right as one."""
import inspect
import random
import unittest

from helping import Exactly, anything, flat, lines, pt, ray_of, rooted, texts
from scenetongue import hits
from scenetongue.hits import first_hit, hit_of, right_hit
from scenetongue.laying import laid_out
from scenetongue.rays import stretches
from scenetongue.reading import read_scene
from scenetongue.roots import compare

NOW = (0, 1)
AT_ONCE = flat(0)
ALONG = ray_of("0 0 0", "1 0 0")


def scene_of(*rows):
    return read_scene(lines(*rows))


def row_of(*ends):
    """A scene of boxes in a row along x, called a, b, .., shown in that order."""
    names = "abcdefgh"[:len(ends)]
    rows = [f"box {name} {low} -1 -1 {high} 1 1" for name, (low, high) in zip(names, ends)]
    return scene_of(*rows, *[f"show {name} red" for name in names])


class HitOf(Exactly):
    def hits(self, scene, name, ray, wanted, moment=NOW):
        self.tells(hit_of(scene, name, moment, ray), wanted)

    def test_ahead_around_and_behind(self):
        for ends, wanted in (
            ((2, 3), ("a", "a", 0, flat(2))),
            ((0, 3), ("a", "a", 0, flat(0))),
            ((-1, 3), ("a", None, None, AT_ONCE)),
            ((-1, "1/9"), ("a", None, None, AT_ONCE)),
            ((-1, 0), None),
            ((-3, -2), None),
        ):
            self.hits(row_of(ends), "a", ALONG, wanted)

    def test_faces_and_names_of_leaves(self):
        scene = scene_of("box a -1 -1 -1 1 1 1", "slide b a 5 0 0", "show b red")
        self.hits(scene, "b", ALONG, ("b", "a", 0, flat(4)))
        self.hits(scene, "b", ray_of("9 0 0", "-1 0 0"), ("b", "a", 1, flat(3)))
        self.hits(scene, "b", ray_of("5 -9 0", "0 2 0"), ("b", "a", 2, flat(4)))
        self.hits(scene, "b", ray_of("5 9 0", "0 -1 0"), ("b", "a", 3, flat(8)))
        self.hits(scene, "b", ray_of("5 0 -9", "0 0 1"), ("b", "a", 4, flat(8)))
        self.hits(scene, "b", ray_of("5 0 9", "0 0 -1"), ("b", "a", 5, flat(8)))
        self.hits(scene, "b", ray_of("0 5 0", "1 0 0"), None)

    def test_a_cut_shows_the_other_leaf_s_side(self):
        scene = scene_of("box a -1 -1 -1 5 1 1", "box b -2 -2 -2 2 2 2", "cut c a b", "show c red")
        self.hits(scene, "c", ALONG, ("c", "b", 1, flat(2)))
        self.hits(scene, "c", ray_of("3 0 0", "1 0 0"), ("c", None, None, AT_ONCE))
        self.hits(scene, "c", ray_of("2 0 0", "1 0 0"), ("c", "b", 1, flat(0)))

    def test_the_first_stretch_that_ends_behind_nought(self):
        rows = ["box a -5 -1 -1 -4 1 1", "box b -1 -1 -1 {} 1 1", "box c 3 -1 -1 4 1 1", "join d a b", "join e c d", "show e red"]
        for end, wanted in (("1", ("e", None, None, AT_ONCE)), ("0", ("e", "c", 0, flat(3))), ("-1/2", ("e", "c", 0, flat(3)))):
            scene = scene_of(*[row.format(end) for row in rows])
            self.hits(scene, "e", ALONG, wanted)

    def test_a_half_space(self):
        scene = scene_of("half h 0 0 1 0", "show h red")
        self.hits(scene, "h", ray_of("0 0 5", "0 0 -1"), ("h", "h", 0, flat(5)))
        self.hits(scene, "h", ray_of("0 0 5", "0 0 1"), None)
        self.hits(scene, "h", ray_of("0 0 -5", "0 0 1"), ("h", None, None, AT_ONCE))
        self.hits(scene, "h", ray_of("0 0 -5", "1 0 0"), ("h", None, None, AT_ONCE))
        self.hits(scene, "h", ray_of("0 0 0", "1 0 0"), None)
        self.hits(scene, "h", ray_of("0 0 0", "0 0 -1"), ("h", "h", 0, flat(0)))
        self.hits(scene, "h", ray_of("0 0 0", "0 0 1"), None)

    def test_a_ball(self):
        scene = scene_of("ball b 0 0 0 2", "show b red")
        self.hits(scene, "b", ray_of("-3 1 0", "1 0 0"), ("b", "b", 0, rooted(3, -1, 3)))
        self.hits(scene, "b", ray_of("-2 0 0", "1 0 0"), ("b", "b", 0, rooted(2, -1, 4)))
        self.hits(scene, "b", ray_of("2 0 0", "1 0 0"), None)
        self.hits(scene, "b", ray_of("1 0 0", "1 0 0"), ("b", None, None, AT_ONCE))
        self.hits(scene, "b", ray_of("-3 2 0", "1 0 0"), None)

    def test_things_that_move(self):
        scene = scene_of("box a 2 -1 -1 3 1 1", "show a red move 1 0 0")
        for moment, wanted in (
            ((0, 1), ("a", "a", 0, flat(2))), ((5, 1), ("a", "a", 0, flat(7))), ((1, 2), ("a", "a", 0, flat("5/2"))),
            ((-2, 1), ("a", "a", 0, flat(0))), ((-5, 2), ("a", None, None, AT_ONCE)), ((-3, 1), None), ((-4, 1), None),
        ):
            self.hits(scene, "a", ALONG, wanted, moment)

    def test_of_several_things_the_one_named(self):
        scene = row_of((2, 3), (1, 5), (4, 5))
        self.hits(scene, "a", ALONG, ("a", "a", 0, flat(2)))
        self.hits(scene, "b", ALONG, ("b", "b", 0, flat(1)))
        self.hits(scene, "c", ALONG, ("c", "c", 0, flat(4)))


class FirstHit(Exactly):
    def first(self, scene, ray, wanted, moment=NOW):
        self.tells(first_hit(scene, moment, ray), wanted)

    def test_the_least_t(self):
        self.first(row_of((2, 3), (1, 5), (4, 5)), ALONG, ("b", "b", 0, flat(1)))
        self.first(row_of((4, 5), (2, 3), (-3, -2)), ALONG, ("b", "b", 0, flat(2)))
        self.first(row_of((4, 5), (2, 3), (-3, 1)), ALONG, ("c", None, None, AT_ONCE))

    def test_ties_by_the_order_in_which_they_are_shown(self):
        self.first(row_of((2, 3), (2, 5)), ALONG, ("a", "a", 0, flat(2)))
        bodies = ("box a 2 -1 -1 3 1 1", "box b 2 -1 -1 5 1 1")
        self.first(scene_of(*bodies, "show b red", "show a red"), ALONG, ("b", "b", 0, flat(2)))
        self.first(row_of((-1, 1), (-2, 2), (0, 3)), ALONG, ("a", None, None, AT_ONCE))
        self.first(row_of((0, 3), (-2, 2)), ALONG, ("a", "a", 0, flat(0)))
        self.first(row_of((1, 3), (-2, 2), (0, 3)), ALONG, ("b", None, None, AT_ONCE))

    def test_ties_of_a_ball_and_a_box(self):
        bodies = ("box a 1 -1 -1 3 1 1", "ball b 3 0 0 2")
        self.first(scene_of(*bodies, "show a red", "show b red"), ALONG, ("a", "a", 0, flat(1)))
        self.first(scene_of(*bodies, "show b red", "show a red"), ALONG, ("b", "b", 0, rooted(3, -1, 4)))

    def test_balls_against_boxes_at_moments_that_are_roots(self):
        # The ball's begin is 3 less root 3, that is 1.2679..
        ray = ray_of("0 1 0", "1 0 0")
        for low, wanted in (("12679/10000", "a"), ("317/250", "b"), ("63397/50000", "a"), ("25359/20000", "b")):
            for shown in (("show a red", "show b red"), ("show b red", "show a red")):
                scene = scene_of("ball b 3 0 0 2", f"box a {low} -9 -9 9 9 9", *shown)
                self.assertEqual(first_hit(scene, NOW, ray)[0], wanted, low)

    def test_two_balls_of_unlike_roots(self):
        ray = ray_of("0 1 0", "1 0 0")
        # 3 less root 3, 1.2679.., against 33/10 less root 4.29, 29/10 less root 2.61, 3 less root 3.41.
        for middle, radius, wanted in (("33/10", "23/10", "a"), ("29/10", "19/10", "b"), ("3", "21/10", "a")):
            scene = scene_of("ball b 3 0 0 2", f"ball a {middle} 0 0 {radius}", "show b red", "show a red")
            self.assertEqual(first_hit(scene, NOW, ray)[0], wanted)

    def test_no_thing_at_all(self):
        self.first(read_scene(""), ALONG, None)
        self.first(scene_of("box a 1 -1 -1 3 1 1"), ALONG, None)
        self.first(row_of((-3, -2), (-5, 0)), ALONG, None)

    def test_things_that_move(self):
        scene = scene_of("box a 2 -1 -1 3 1 1", "box b 4 -1 -1 5 1 1", "show a red move 1 0 0", "show b red")
        for moment, wanted in (
            ((0, 1), ("a", "a", 0, flat(2))), ((2, 1), ("a", "a", 0, flat(4))), ((7, 3), ("b", "b", 0, flat(4))),
            ((-3, 1), ("b", "b", 0, flat(4))),
        ):
            self.first(scene, ALONG, wanted, moment)

    def test_of_random_scenes_the_first_of_all(self):
        source = random.Random(4)
        for turn in range(150):
            scene = random_scene(source)
            ray = (pt(*[source.randint(-6, 6) for place in range(3)]), pt("1 1/2 -1/3"))
            moment = source.choice(((0, 1), (1, 2), (-1, 1)))
            each = [hit_of(scene, name, moment, ray) for name in names_of(scene)]
            best = None
            for hit in each:
                if hit is not None and (best is None or compare(hit[3], best[3]) < 0):
                    best = hit
            self.first(scene, ray, best, moment)
            self.tells(right_hit(scene, moment, ray, best), True)
            for hit in each:
                self.tells(right_hit(scene, moment, ray, hit), hit == best)

    def test_hits_lie_in_the_first_stretch(self):
        source = random.Random(6)
        for turn in range(150):
            scene = random_scene(source)
            ray = (pt(*[source.randint(-6, 6) for place in range(3)]), pt("1 0 0"))
            for name in names_of(scene):
                leaves, shape = laid_out(scene, name, NOW)
                rows = [row for row in stretches(leaves, shape, ray) if row[1] is None or compare(row[1], AT_ONCE) > 0]
                wanted = None
                if rows:
                    begin, end, at = rows[0]
                    wanted = (name, None, None, AT_ONCE)
                    if begin is not None and compare(begin, AT_ONCE) >= 0:
                        wanted = (name, leaves[at[0]][0], at[1], begin)
                self.tells(hit_of(scene, name, NOW, ray), wanted)


def names_of(scene):
    return [scene[0][thing[0]][0] for thing in scene[1]]


def random_scene(source):
    rows = ["box a -1 -1 -1 1 2 1", "ball b 0 0 0 2", "turn c a z 3/5 4/5", "cut d b c", "join e c b"]
    for name, body in zip("fgijk", (source.choice("abcde") for at in range(5))):
        where = " ".join(str(source.randint(-4, 4)) for place in range(3))
        rows += [f"slide {name} {body} {where}", f"show {name} red move {source.randint(-1, 1)} 1 0"]
    return scene_of(*rows)


class RightHit(Exactly):
    scene = scene_of("box a 2 -1 -1 3 1 1", "ball b 9 0 0 1", "box c -9 -9 -9 -8 9 9", "show a red", "show b red", "show c red")

    def right(self, hit, wanted, ray=ALONG, scene=None):
        told = right_hit(scene or self.scene, NOW, ray, hit)
        if told is not wanted:
            self.fail(f"told {told!r}")

    def test_the_first_hit_itself(self):
        self.right(("a", "a", 0, flat(2)), True)
        self.right(("b", "b", 0, rooted(9, -1, 1)), True, ray_of("0 0 0", "1 0 0"), scene_of("ball b 9 0 0 1", "show b red"))

    def test_t_otherwise_written(self):
        for t in (rooted(0, 1, 4), rooted(2, 5, 0), rooted(2, 0, 7), rooted(1, 1, 1), rooted(5, -1, 9), rooted(4, -2, 1),
                  rooted(0, "1/2", 16), rooted(0, 4, "1/4"), rooted(-1, 3, 1), rooted(0, 1, 4)):
            self.right(("a", "a", 0, t), True)
        self.right(("b", "b", 0, rooted(3, "-1/2", 12)), True, ray_of("0 1 0", "1 0 0"), scene_of("ball b 3 0 0 2", "show b red"))
        self.right(("b", "b", 0, rooted(3, 1, 3)), False, ray_of("0 1 0", "1 0 0"), scene_of("ball b 3 0 0 2", "show b red"))

    def test_another_t(self):
        for t in (flat(1), flat(3), flat("19999/10000"), rooted(0, 1, 5), rooted(0, 1, 3), rooted(0, -1, 4), rooted(2, 1, 1),
                  rooted(0, 1, "399999999/100000000")):
            self.right(("a", "a", 0, t), False)

    def test_t_of_a_d_below_nought(self):
        for t in (rooted(2, 0, -1), rooted(2, 1, -1), rooted(0, 1, -4), rooted(0, 1, "-1/4"), rooted(2, 0, -4)):
            self.right(("a", "a", 0, t), False)

    def test_t_that_is_no_root_number(self):
        nought = (0, 1)
        for t in (
            None, 2, (2, 1), ((2, 1), nought), ((2, 1), nought, nought, nought), [(2, 1), nought, nought], (2, 0, 0),
            ([2, 1], nought, nought), ((2, 1), [0, 1], nought), ((2, 1), nought, [0, 1]), ((4, 2), nought, nought),
            ((2, 1), (0, 2), nought), ((2, 1), nought, (0, 2)), ((2, True), nought, nought), ((2, 1), (False, 1), nought),
            ((2, 1), nought, (0, True)), ((-2, -1), nought, nought), ((2, 1), nought, (0, -1)), ("2", "0", "0"), "2", (), [],
            {}, True, ((2, 1), None, None), (None, None, None), ((2, 1), nought, None), ((2, 1, 1), nought, nought),
            ((0, 1), (1, 1), (8, 2)), ((0, 1), (2, 2), (4, 1)), ({}, {}, {}),
        ):
            self.right(("a", "a", 0, t), False)

    def test_the_first_three(self):
        for hit in (
            ("b", "a", 0, flat(2)), ("a", "b", 0, flat(2)), ("a", "a", 1, flat(2)), ("a", "a", False, flat(2)),
            ("a", None, None, flat(2)), ("a", "a", None, flat(2)), ("a", None, 0, flat(2)), (None, "a", 0, flat(2)),
            ("A", "a", 0, flat(2)), ("a", "a", "0", flat(2)), ("a", "a", (0,), flat(2)), (["a"], "a", 0, flat(2)),
            ("a", ["a"], 0, flat(2)), ("a", "a", [0], flat(2)), ("a ", "a", 0, flat(2)), (0, 0, 0, flat(2)), ("a", "a", -1, flat(2)),
            ("a", "a", (0, 1), flat(2)), ("", "a", 0, flat(2)),
        ):
            self.right(hit, False)

    def test_a_truth_for_a_face(self):
        back = ray_of("5 0 0", "-1 0 0")
        self.right(("a", "a", 1, flat(2)), True, back)
        self.right(("a", "a", True, flat(2)), False, back)
        self.right(("a", "a", False, flat(2)), False)

    def test_tuples_alone_and_of_four(self):
        hit = ("a", "a", 0, flat(2))
        for thing in (list(hit), hit[:3], hit + (None,), (hit,), [hit], {0: hit}, (), (*hit[:3],), (*hit[:3], *hit[3])):
            self.right(thing, False)

    def test_none_and_a_hit(self):
        self.right(None, False)
        away = ray_of("0 0 0", "0 1 0")
        self.right(None, True, away)
        for thing in (("a", "a", 0, flat(2)), ("a", None, None, AT_ONCE), (), False, 0, [], (None, None, None, None), "", "None"):
            self.right(thing, False, away)
        self.right(None, True, ALONG, read_scene(""))

    def test_a_ray_that_begins_inside(self):
        inside = ray_of("5/2 0 0", "1 0 0")
        self.right(("a", None, None, AT_ONCE), True, inside)
        self.right(("a", None, None, rooted(0, 5, 0)), True, inside)
        self.right(("a", None, None, rooted(-2, 1, 4)), True, inside)
        for hit in (("a", "a", 0, AT_ONCE), ("a", None, 0, AT_ONCE), ("a", None, False, AT_ONCE), ("a", False, None, AT_ONCE),
                    ("a", "a", 1, flat("1/2")), ("a", None, None, flat("-1/2")), ("a", (), None, AT_ONCE), ("a", None, (), AT_ONCE)):
            self.right(hit, False, inside)

    def test_of_equal_ones_only_the_thing_shown_first(self):
        scene = row_of((2, 3), (2, 5))
        self.right(("a", "a", 0, flat(2)), True, scene=scene)
        self.right(("b", "b", 0, flat(2)), False, scene=scene)

    def test_anything(self):
        for thing in anything() + texts():
            self.right(thing, False)
            for place in range(4):
                hit = ["a", "a", 0, flat(2)]
                hit[place] = thing
                self.right(tuple(hit), (place < 2 and thing == "a") or (place == 2 and thing == 0 and thing is not False))
            for place in range(3):
                t = list(flat(2))
                t[place] = thing
                self.right(("a", "a", 0, tuple(t)), place > 0 and thing in ((0, 1), (1, 2)))

    def test_very_great_numbers(self):
        great = 10 ** 5000 + 1
        for t in (((great, 1), (0, 1), (0, 1)), ((2, 1), (great, 1), (1, great)), ((2 * great, great), (0, 1), (0, 1)),
                  ((great, great - 2), (0, 1), (0, 1))):
            self.right(("a", "a", 0, t), False)
        self.right(("a", "a", 0, ((0, 1), (2, great), (great * great, 1))), True)
        self.right(("a", "a", great, flat(2)), False)


class Calls(Exactly):
    def test_nothing_is_changed_and_the_same_is_told(self):
        scene = random_scene(random.Random(9))
        for name in names_of(scene):
            self.changes_nothing(hit_of, scene, name, (1, 2), ALONG)
        self.changes_nothing(first_hit, scene, (1, 2), ALONG)
        for thing in anything() + [None, first_hit(scene, (1, 2), ALONG)]:
            self.changes_nothing(right_hit, scene, (1, 2), ALONG, thing)

    def test_names_and_arguments(self):
        for name, arguments in (
            ("hit_of", ["scene", "name", "moment", "ray"]), ("first_hit", ["scene", "moment", "ray"]),
            ("right_hit", ["scene", "moment", "ray", "hit"]),
        ):
            function = getattr(hits, name)
            self.assertEqual(list(inspect.signature(function).parameters), arguments)
            self.assertEqual((function.__name__, function.__module__), (name, "scenetongue.hits"))


if __name__ == "__main__":
    unittest.main()
