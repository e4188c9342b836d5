"""Sight: what hides a place from another one, from where one sees, and when no longer."""
import inspect
import random
import unittest

from helping import Exactly, flat, pt, rooted, scene_of
from making import World
from scenetongue import sight
from scenetongue.errors import NoWay, SceneError
from scenetongue.hits import hit_of
from scenetongue.laying import laid_out
from scenetongue.rays import stretches
from scenetongue.reading import read_scene
from scenetongue.roots import compare
from scenetongue.sight import first_hidden, first_place, sees

NOW = (0, 1)
HERE, THERE = pt("0 0 0"), pt("10 0 0")
WALL = ("box a 2 -1 -1 3 1 1", "show a red")


class Sees(Exactly):
    def hidden_by(self, scene, one, other, wanted, moment=NOW):
        self.tells(sees(scene, moment, pt(one), pt(other)), wanted, (one, other))

    def test_nothing_between(self):
        self.hidden_by(scene_of(), "0 0 0", "1 2 3", None)
        scene = scene_of(*WALL)
        for one, other in (
            ("0 0 0", "1 0 0"), ("0 0 0", "2 0 0"), ("0 5 0", "10 5 0"), ("10 0 0", "4 0 0"), ("3 0 0", "9 0 0"), ("9 0 0", "3 0 0"), ("4 0 0", "5 0 0"),
            ("5 0 0", "4 0 0"), ("0 1 0", "9 1 0"), ("2 -5 0", "2 5 0"), ("1 0 0", "3 2 0"), ("3 0 1/2", "3 1/2 0"), ("0 0 0", "-9 0 0"),
        ):
            self.hidden_by(scene, one, other, None)
            self.hidden_by(scene, other, one, None)

    def test_a_thing_between(self):
        scene = scene_of(*WALL)
        self.hidden_by(scene, "0 0 0", "10 0 0", ("a", "a", 0, flat("1/5")))
        self.hidden_by(scene, "10 0 0", "0 0 0", ("a", "a", 1, flat("7/10")))
        self.hidden_by(scene, "0 0 0", "3 0 0", ("a", "a", 0, flat("2/3")))
        self.hidden_by(scene, "5/2 -5 0", "5/2 5 0", ("a", "a", 2, flat("2/5")))

    def test_at_one_end_alone(self):
        scene = scene_of(*WALL)
        self.hidden_by(scene, "2 0 0", "0 0 0", None)
        self.hidden_by(scene, "2 0 0", "9 0 0", ("a", "a", 0, flat(0)))
        self.hidden_by(scene, "2 0 0", "3 0 0", ("a", "a", 0, flat(0)))
        self.hidden_by(scene, "3 0 0", "2 0 0", ("a", "a", 1, flat(0)))
        self.hidden_by(scene, "0 0 0", "2 0 0", None)
        self.hidden_by(scene, "0 0 0", "200001/100000 0 0", ("a", "a", 0, flat("200000/200001")))

    def test_within_a_thing(self):
        scene = scene_of(*WALL)
        inside = ("a", None, None, flat(0))
        for other in ("0 0 0", "9 0 0", "5/2 1/2 0", "3 0 0", "2 0 0", "5/2 0 9"):
            self.hidden_by(scene, "5/2 0 0", other, inside)
        self.hidden_by(scene, "0 0 0", "5/2 0 0", ("a", "a", 0, flat("4/5")))

    def test_beyond_the_other_place(self):
        scene = scene_of("box a 2 -1 -1 3 1 1", "box b 5 -1 -1 6 1 1", "show b red", "show a red")
        self.hidden_by(scene, "0 0 0", "1 0 0", None)
        self.hidden_by(scene, "0 0 0", "4 0 0", ("a", "a", 0, flat("1/2")))
        self.hidden_by(scene, "4 0 0", "10 0 0", ("b", "b", 0, flat("1/6")))
        self.hidden_by(scene, "4 0 0", "5 0 0", None)
        self.hidden_by(scene, "4 0 0", "-1 0 0", ("a", "a", 1, flat("1/5")))

    def test_of_several_the_first(self):
        rows = ("box a 5 -1 -1 6 1 1", "box b 2 -1 -1 3 1 1", "ball c 9 0 0 1/2")
        for shown in ("abc", "cba", "bca"):
            scene = scene_of(*rows, *[f"show {name} red" for name in shown])
            self.hidden_by(scene, "0 0 0", "10 0 0", ("b", "b", 0, flat("1/5")))
            self.hidden_by(scene, "10 0 0", "0 0 0", ("c", "c", 0, rooted("1/10", "-1/100", 25)))

    def test_ties_by_the_order_of_the_text(self):
        rows = ("box a 2 -1 -1 3 1 1", "box b 2 -2 -2 5 2 2", "half c -1 0 0 -2")
        for shown in ("abc", "bca", "cab", "cba"):
            scene = scene_of(*rows, *[f"show {name} red" for name in shown])
            self.hidden_by(scene, "0 0 0", "10 0 0", (shown[0], shown[0], 0, flat("1/5")))
            self.hidden_by(scene, "5/2 0 0", "10 0 0", (shown[0], None, None, flat(0)))
        # At nought: inside of the one, and at the side of the other.
        rows = ("box a 0 -1 -1 3 1 1", "box b -1 -1 -1 3 1 1")
        self.hidden_by(scene_of(*rows, "show a red", "show b red"), "0 0 0", "10 0 0", ("a", "a", 0, flat(0)))
        self.hidden_by(scene_of(*rows, "show b red", "show a red"), "0 0 0", "10 0 0", ("b", None, None, flat(0)))

    def test_a_ball_that_just_comes_near(self):
        scene = scene_of("ball b 5 1 0 1", "show b red")
        self.hidden_by(scene, "0 0 0", "10 0 0", None)
        self.hidden_by(scene, "0 1/1000 0", "10 0 0", ("b", "b", 0, sees(scene, NOW, pt("0 1/1000 0"), THERE)[3]))
        scene = scene_of("ball b 5 0 0 2", "show b red")
        self.hidden_by(scene, "0 1 0", "1 1 0", None)
        # The ball is entered at 5 less the root of 3.
        self.hidden_by(scene, "0 1 0", "163397/50000 1 0", None)
        self.assertEqual(sees(scene, NOW, pt("0 1 0"), pt("65359/20000 1 0"))[:3], ("b", "b", 0))

    def test_at_a_moment(self):
        scene = scene_of(*WALL[:1], "show a red move 0 2 0")
        self.hidden_by(scene, "0 0 0", "10 0 0", ("a", "a", 0, flat("1/5")))
        self.hidden_by(scene, "0 0 0", "10 0 0", None, (1, 2))
        self.hidden_by(scene, "0 0 0", "10 0 0", ("a", "a", 0, flat("1/5")), (49, 100))
        self.hidden_by(scene, "0 0 0", "10 0 0", None, (-1, 2))

    def test_no_way(self):
        for scene in (scene_of(), scene_of(*WALL)):
            for point in ("0 0 0", "5/2 0 0", "-1/3 1/7 9"):
                with self.assertRaises(SceneError) as caught:
                    sees(scene, NOW, pt(point), pt(point))
                self.assertIs(type(caught.exception), NoWay)

    def test_random_worlds_word_by_word(self):
        source = random.Random(60)
        counts = {True: 0, False: 0}
        for turn in range(200):
            scene = read_scene(World(source).text())
            one, other = (pt(*[source.randint(-4, 4) for axis in range(3)]) for point in range(2))
            if one == other:
                continue
            told = sees(scene, (1, 2), one, other)
            self.tells(told, plain_sees(scene, (1, 2), one, other))
            counts[told is None] += 1
        self.assertGreater(min(counts.values()), 30)


def plain_sees(scene, moment, one, other):
    ray = (one, pt(*[b[0] * a[1] - a[0] * b[1] for a, b in zip(one, other)]))
    found = []
    for thing in scene[1]:
        name = scene[0][thing[0]][0]
        for begin, end, at in stretches(*laid_out(scene, name, moment), ray):
            if (begin is None or compare(begin, flat(1)) < 0) and (end is None or compare(end, flat(0)) > 0):
                found.append(hit_of(scene, name, moment, ray))
                break
    least = None
    for hit in found:
        if least is None or compare(hit[3], least[3]) < 0:
            least = hit
    return least


class FirstPlace(Exactly):
    def sees_first(self, places, wanted, scene=scene_of(*WALL), moment=NOW):
        self.tells(first_place(scene, moment, tuple(pt(place) for place in places), THERE), wanted, places)

    def test_several(self):
        self.sees_first(("0 0 0", "1 0 0", "4 0 0", "5 0 0"), 2)
        self.sees_first(("4 0 0", "0 0 0"), 0)
        self.sees_first(("0 0 0", "0 9 0"), 1)
        self.sees_first(("5/2 0 0", "2 0 0", "3 0 0"), 2)

    def test_none(self):
        self.sees_first(("0 0 0", "1 0 0", "5/2 0 0"), None)
        self.sees_first((), None)
        self.sees_first((), None, scene_of())

    def test_the_other_place_itself(self):
        self.sees_first(("10 0 0",), 0)
        self.sees_first(("0 0 0", "10 0 0", "9 0 0"), 1)
        self.sees_first(("9 0 0", "10 0 0"), 0)
        # Also within a thing, where no other place sees it.
        around = scene_of("box a 9 -1 -1 11 1 1", "show a red")
        self.sees_first(("0 0 0", "99 0 0", "10 0 0", "10 0 0"), 2, around)
        self.sees_first(("0 0 0", "99 0 0", "21/2 0 0"), None, around)

    def test_at_a_moment(self):
        scene = scene_of(*WALL[:1], "show a red move 0 2 0")
        self.sees_first(("0 0 0", "4 0 0"), 1, scene)
        self.sees_first(("0 0 0", "4 0 0"), 0, scene, (1, 1))


class FirstHidden(Exactly):
    scene = scene_of(*WALL[:1], "show a red move 0 2 0")

    def test_moments(self):
        for moments, wanted in (
            (((0, 1),), 0), (((1, 1), (0, 1)), 1), (((1, 2), (-1, 2), (2, 1), (1, 3), (0, 1)), 3), (((1, 2), (-1, 2), (2, 1)), None), ((), None),
            (((0, 1), (0, 1)), 0),
        ):
            self.tells(first_hidden(self.scene, moments, HERE, THERE), wanted, moments)

    def test_no_way_ahead_of_all(self):
        for scene in (self.scene, scene_of()):
            for moments in ((), ((0, 1),), ((1, 1), (0, 1))):
                with self.assertRaises(SceneError) as caught:
                    first_hidden(scene, moments, HERE, HERE)
                self.assertIs(type(caught.exception), NoWay)

    def test_no_things(self):
        self.tells(first_hidden(scene_of(), ((0, 1), (1, 1)), HERE, THERE), None)


class Calls(Exactly):
    def test_nothing_is_changed_and_the_same_is_told(self):
        scene = scene_of(*WALL)
        self.changes_nothing(sees, scene, (1, 2), HERE, THERE)
        self.changes_nothing(first_place, scene, (1, 2), (HERE, THERE), THERE)
        self.changes_nothing(first_hidden, scene, ((0, 1), (1, 2)), HERE, THERE)

    def test_names_and_arguments(self):
        for name, arguments in (
            ("sees", ["scene", "moment", "one", "other"]), ("first_place", ["scene", "moment", "places", "other"]),
            ("first_hidden", ["scene", "moments", "one", "other"]),
        ):
            function = getattr(sight, name)
            self.assertEqual(list(inspect.signature(function).parameters), arguments)
            self.assertEqual((function.__name__, function.__module__), (name, "scenetongue.sight"))


if __name__ == "__main__":
    unittest.main()
