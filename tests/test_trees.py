"""Trees of boxes: rays in boxes, what is a tree, and one tree."""
import inspect
import random
import unittest
from fractions import Fraction

from helping import Exactly, anything, fr, pt, ray_of, scene_of, texts
from making import World, boxes_of, random_tree, roots_of
from scenetongue import trees
from scenetongue.reading import read_scene
from scenetongue.trees import box_stretch, right_tree, tree_of

NOW = (0, 1)


def box(low, high):
    return (pt(low), pt(high))


UNIT = box("0 0 0", "1 1 1")


class BoxStretch(Exactly):
    def is_in(self, place, way, wanted, within=UNIT):
        if wanted is not None:
            wanted = tuple(fr(one) for one in wanted.split())
        self.tells(box_stretch(within, ray_of(place, way)), wanted, (place, way))

    def test_through(self):
        self.is_in("-1 1/2 1/2", "1 0 0", "1 2")
        self.is_in("2 1/2 1/2", "-1 0 0", "1 2")
        self.is_in("1/2 -3 1/2", "0 2 0", "3/2 2")
        self.is_in("1/2 1/2 3", "0 0 -3", "2/3 1")
        self.is_in("-1 -1 -1", "1 1 1", "1 2")
        self.is_in("-1 -2 -3", "2 4 6", "1/2 2/3")
        self.is_in("2 -1 1/2", "-2 2 0", "1/2 1")

    def test_past(self):
        for place, way in (
            ("-1 2 1/2", "1 0 0"), ("-1 -1/9 1/2", "1 0 0"), ("-1 1/2 2", "1 0 0"), ("-1 1/2 -1", "1 0 0"), ("-1 1/2 1/2", "0 1 0"),
            ("-1 0 0", "1 2 0"), ("-1 2 0", "2 -1/3 0"), ("2 1/2 1/2", "0 0 1"), ("-2 0 1/2", "1 1 0"), ("-1 -3 1/2", "1 1 0"),
        ):
            self.is_in(place, way, None)

    def test_away(self):
        self.is_in("2 1/2 1/2", "1 0 0", None)
        self.is_in("-1 1/2 1/2", "-1 0 0", None)
        self.is_in("2 2 2", "1 1 1", None)
        self.is_in("1/2 1/2 -1/9", "0 0 -7", None)

    def test_along_a_side_and_an_edge(self):
        for y, z in (("0", "1/2"), ("1", "1/2"), ("1/2", "0"), ("1/2", "1"), ("0", "0"), ("1", "1"), ("0", "1")):
            self.is_in(f"-1 {y} {z}", "1 0 0", "1 2")
            self.is_in(f"1/3 {y} {z}", "1 0 0", "0 2/3")
            self.is_in(f"2 {y} {z}", "1 0 0", None)

    def test_in_a_corner_alone(self):
        self.is_in("-1 1 1/2", "1 1 0", None)
        self.is_in("-1 0 1/2", "1 1 0", "1 1")
        self.is_in("2 0 0", "-1 1 0", "1 1")
        self.is_in("-1 2 3", "1 -1 -2", "1 3/2")
        self.is_in("-1 -1 3", "1 1 -1", "2 2")
        self.is_in("1 1 1", "1 1 1", "0 0")
        self.is_in("1 1 1", "1 0 0", "0 0")
        self.is_in("1 1 1", "1 -1 0", "0 0")
        self.is_in("1 1 1", "0 -1 0", "0 1")

    def test_from_within(self):
        self.is_in("1/2 1/2 1/2", "1 0 0", "0 1/2")
        self.is_in("1/2 1/2 1/2", "-1 -2 -4", "0 1/8")
        self.is_in("0 0 0", "1 0 0", "0 1")
        self.is_in("0 0 0", "-1 0 0", "0 0")
        self.is_in("1/4 1/2 1/2", "3 0 0", "0 1/4")

    def test_flat_boxes(self):
        plate, needle, dot = box("0 0 1", "2 2 1"), box("0 1 1", "5 1 1"), box("1 2 3", "1 2 3")
        self.is_in("1 1 5", "0 0 -2", "2 2", plate)
        self.is_in("-1 1 1", "1 0 0", "1 3", plate)
        self.is_in("-1 1 0", "1 0 0", None, plate)
        self.is_in("2 3 3", "0 -1 -1", "2 2", needle)
        self.is_in("2 3 3", "0 -1 -2", None, needle)
        self.is_in("-1 1 1", "1 0 0", "1 6", needle)
        self.is_in("0 0 0", "1 2 3", "1 1", dot)
        self.is_in("1 2 3", "5 5 5", "0 0", dot)
        self.is_in("0 0 0", "1 2 4", None, dot)
        self.is_in("2 4 6", "1 2 3", None, dot)

    def test_no_box(self):
        self.tells(box_stretch((), ray_of("0 0 0", "1 0 0")), None)

    def test_lowest_terms(self):
        self.is_in("-4 2 2", "6 0 0", "2/3 5/3", box("0 0 0", "6 6 6"))
        self.is_in("-7/3 1 1", "14/9 1/9 0", "3/2 33/14", box("0 0 0", "4/3 4/3 4"))

    def test_random_boxes(self):
        source = random.Random(40)
        told_none = 0
        for turn in range(3000):
            low = [source.randint(-3, 3) for axis in range(3)]
            high = [one + source.randint(0, 3) for one in low]
            place = [Fraction(source.randint(-6, 6), source.randint(1, 2)) for axis in range(3)]
            way = [Fraction(source.randint(-2, 2), source.randint(1, 3)) for axis in range(3)]
            if not any(way):
                continue
            told = box_stretch((pt(*low), pt(*high)), (pt(*place), pt(*way)))
            wanted = plain_stretch(low, high, place, way)
            self.tells(told, wanted and tuple(fr(one) for one in wanted))
            told_none += told is None
        self.assertTrue(1000 < told_none < 2900, told_none)

    def test_great_numbers(self):
        great, tiny = Fraction(10 ** 299 + 7, 3), Fraction(1, 10 ** 299 + 7)
        within = (pt(great, -1, -tiny), pt(great + tiny, 1, tiny))
        self.tells(box_stretch(within, ray_of("0 0 0", "1 0 0")), (fr(great), fr(great + tiny)))
        self.tells(box_stretch(within, (pt(0, 0, 2 * tiny), pt(1, 0, 0))), None)
        self.tells(box_stretch(within, (pt(0, 0, -great), pt(1, 0, 1))), (fr(great), fr(great + tiny)))


def plain_stretch(low, high, place, way):
    """The moments from 0 on in a closed box, found among those at which a ray comes to a side."""
    def is_within(t):
        return all(a <= p + t * w <= b for a, b, p, w in zip(low, high, place, way))

    moments = [Fraction(0)] + [(side - p) / w for sides in (low, high) for side, p, w in zip(sides, place, way) if w]
    inside = [t for t in moments if t >= 0 and is_within(t)]
    return (min(inside), max(inside)) if inside else None


ROWS = (
    "box a 0 0 0 1 1 1", "ball b 3 0 0 1", "half c 0 0 1 -5", "box d 0 5 0 1 6 1", "box e 9 9 9 10 10 10", "meet f a e",
    "show a red", "show b red", "show c red", "show d red move 0 0 2", "show f red",
)
# At the moment nought; c has no end, and there is nothing in f.
A, B, D = box("0 0 0", "1 1 1"), box("2 -1 -1", "4 1 1"), box("0 5 0", "1 6 1")
AB, BD, ALL = box("0 -1 -1", "4 1 1"), box("0 -1 -1", "4 6 1"), box("0 -1 -1", "4 6 1")
GREAT = box("-9 -9 -9", "9 9 9")


class RightTree(Exactly):
    scene = scene_of(*ROWS)

    def right(self, tree, wanted, moment=NOW, scene=None):
        self.tells(right_tree(self.scene if scene is None else scene, moment, tree), wanted, tree)

    def test_trees(self):
        a, b, d = ("thing", "a", A), ("thing", "b", B), ("thing", "d", D)
        for tree in (
            (a, b, d), (d, a, b), (a, b, d, ("node", (0, 1, 2), ALL)), (a, b, d, ("node", (2, 0, 1), GREAT)),
            (a, b, ("node", (0, 1), AB), d), (a, b, ("node", (1, 0), AB), d, ("node", (2, 3), ALL)),
            (a, ("node", (0,), A), ("node", (1,), A), b, d), (b, ("node", (0,), B), d, ("node", (2, 1), BD), a),
            (a, ("node", (0,), GREAT), b, ("node", (1, 2), GREAT), d, ("node", (4, 3), GREAT), ("node", (5,), GREAT)),
            (("thing", "a", GREAT), b, ("thing", "d", GREAT)),
        ):
            self.right(tree, True)

    def test_no_thing_with_a_box(self):
        for scene in (scene_of(), scene_of(*ROWS[:6], "show c red", "show f red")):
            self.right((), True, scene=scene)
            self.right((("thing", "c", GREAT),), False, scene=scene)
            self.right((("node", (), GREAT),), False, scene=scene)
            self.right((("node", (0,), GREAT),), False, scene=scene)
        self.right((), False)

    def test_names_of_several_letters(self):
        names = ("aa", "aab", "ba", "node", "thing")
        rows = [f"box {name} {at} 0 0 {at + 1} 1 1" for at, name in enumerate(names)]
        scene = scene_of(*rows, *[f"show {name} red" for name in names])
        things = tuple(("thing", name, (pt(at, 0, 0), pt(at + 1, 1, 1))) for at, name in enumerate(names))
        self.right(things, True, scene=scene)
        self.right(things + (("node", (3, 4, 0), GREAT),), True, scene=scene)
        self.right(things + (("node", (3, 4, 3), GREAT),), False, scene=scene)
        self.right(tree_of(scene, NOW), True, scene=scene)

    def test_at_a_moment(self):
        d = ("thing", "d", box("0 5 1", "1 6 2"))
        self.right((("thing", "a", A), ("thing", "b", B), d), True, (1, 2))
        self.right((("thing", "a", A), ("thing", "b", B), d), False)
        self.right((("thing", "a", A), ("thing", "b", B), ("thing", "d", D)), False, (1, 2))

    def test_nodes_left_out_twice_and_exchanged(self):
        a, b, d, top = ("thing", "a", A), ("thing", "b", B), ("thing", "d", D), ("node", (0, 1, 2), ALL)
        for tree in (
            (a, b), (a,), (a, b, d, a), (a, a, b, d), (a, b, d, top, ("thing", "d", GREAT)), (a, top, b, d), (top, a, b, d),
            (a, b, top, d), (a, b, ("node", (0, 1), ALL)), (a, b, d, ("thing", "c", GREAT)), (a, b, d, ("thing", "f", GREAT)),
            (a, b, d, ("thing", "e", GREAT)), (a, b, d, ("thing", "g", GREAT)), (a, b, ("thing", "e", GREAT)), (d, b, ("thing", "A", A)),
        ):
            self.right(tree, False)

    def test_kids(self):
        a, b, d = ("thing", "a", A), ("thing", "b", B), ("thing", "d", D)
        for kids in (
            (), (3,), (0, 3), (4,), (-1,), (0, -1), (0, 0), (0, 1, 2, 0), (1, 2, 1), (True,), (0, True), (False, 1), [0, 1], [0],
            "01", ("0",), (0, None), None, 0, {0: 1}, ((0, 1),), (0, (1,)), ("a", "b"), (10 ** 59,), (0, [1]), (0, {}),
        ):
            self.right((a, b, d, ("node", kids, GREAT)), False)
        for first, second in (((0, 1), (1, 2)), ((0,), (0,)), ((0, 1, 2), (2,)), ((0,), (3, 0)), ((0,), (4,)), ((0,), (5,)), ((4,), (0,))):
            self.right((a, b, d, ("node", first, GREAT), ("node", second, GREAT)), False)
        for first, second in (((0, 1), (2,)), ((0,), (3,)), ((0,), (1, 2)), ((1, 0), (3, 2)), ((2,), (3, 1))):
            self.right((a, b, d, ("node", first, GREAT), ("node", second, GREAT)), True)

    def test_boxes_that_don_t_hold_what_is_beneath(self):
        things = {"a": A, "b": B, "d": D}
        for name in things:
            low, high = things[name]
            for axis in range(3):
                for side in (0, 1):
                    for by, wanted in ((Fraction(1, 10 ** 9), False), (0, True), (-Fraction(1, 10 ** 9), True), (-7, True)):
                        ends = [list(low), list(high)]
                        ends[side][axis] = fr(Fraction(*ends[side][axis]) + (by if side == 0 else -by))
                        changed = (tuple(ends[0]), tuple(ends[1]))
                        others = [("thing", other, things[other]) for other in things if other != name]
                        self.right((*others, ("thing", name, changed)), wanted)
                        self.right((*others, ("thing", name, things[name]), ("node", (2,), changed)), wanted)
                        self.right((*others, ("thing", name, things[name]), ("node", (2,), GREAT), ("node", (3, 0, 1), GREAT)), True)
        a, b, d = ("thing", "a", A), ("thing", "b", B), ("thing", "d", D)
        self.right((a, b, d, ("node", (0, 1), B)), False)
        self.right((a, b, d, ("node", (0, 1), A)), False)
        self.right((a, b, d, ("node", (0,), GREAT), ("node", (3, 1), AB)), False)
        self.right((("thing", "a", GREAT), b, d, ("node", (0,), A)), False)

    def test_what_is_no_box(self):
        low, high = GREAT
        for wrong in (
            (), None, (low,), (low, high, high), [low, high], (list(low), high), (low, list(high)), (high, low), (low[:2], high[:2]),
            (low, high[:2]), (low[:2], high), (low + ((0, 1),), high + ((0, 1),)), (low, (9, 9, 9)), ((-9, -9, -9), (9, 9, 9)), "box", 7, True, {}, {0: low, 1: high},
            (pt("-9 -9 9"), pt("9 9 -9")), (((-18, 2), (-9, 1), (-9, 1)), high), (low, ((9, True), (9, 1), (9, 1))),
            (low, ((9, 1), [9, 1], (9, 1))), (low, ((9, 1), (9, 1), (9, -1))), (low, ((9, 1), (9, 1), (9, 0))), (low, ((9, 1), None, (9, 1))),
            (((-9, 1), (-9, 1), (-9, 1, 1)), high), (low, ((9, 1), (9, 1), "9")), (None, None), (low, None), (None, high),
        ):
            self.right((("thing", "a", wrong), ("thing", "b", B), ("thing", "d", D)), False)
            self.right((("thing", "a", A), ("thing", "b", B), ("thing", "d", D), ("node", (0,), wrong)), False)
        scene = scene_of("box a 0 0 0 1 1 1", "show a red")
        self.right((("thing", "a", box("0 0 0", "1 1 1")),), True, scene=scene)
        self.right((("thing", "a", (((False, 1),) * 3, ((1, 1),) * 3)),), False, scene=scene)
        self.right((("thing", "a", (((0, 1),) * 3, ((1, 1), (1, 1), (True, 1)))),), False, scene=scene)

    def test_a_flat_box_below_and_above(self):
        # What two boxes have in common may be flat: the box of such a thing is one, low and high alike there.
        scene = scene_of("box a 0 0 0 1 1 1", "box b 1 0 0 2 1 1", "meet c a b", "show c red")
        self.right((("thing", "c", box("1 0 0", "1 1 1")),), True, scene=scene)
        self.right((("thing", "c", box("0 0 0", "1 1 1")),), True, scene=scene)
        self.right((), False, scene=scene)

    def test_what_is_no_node(self):
        b, d = ("thing", "b", B), ("thing", "d", D)
        for wrong in (
            ["thing", "a", A], ("thing", "a"), ("thing", "a", A, A), ("Thing", "a", A), ("things", "a", A), (None, "a", A), ("a", "thing", A),
            ("thing", ["a"], A), ("thing", ("a",), A), ("thing", None, A), ("thing", 0, A), ("thing", A, "a"), ("thing", {}, A), ("node", "a", A),
            ("thing", (0,), A), (True, "a", A), ([], "a", A), ("thing", "a ", A), (), None, "thing", ("", "a", A), (0, "a", A),
        ):
            self.right((wrong, b, d), False)
            self.right((b, d, wrong), False)
            self.right((("thing", "a", A), b, d, wrong), False)

    def test_anything(self):
        tree = (("thing", "a", A), ("thing", "b", B), ("thing", "d", D), ("node", (0, 1), AB), ("node", (3, 2), ALL))
        self.right(tree, True)
        self.right(list(tree), False)
        for thing in anything() + texts() + [None]:
            self.right(thing, False)
            self.right((thing,), False)
            self.right(tree + (thing,), False)
            for at in range(5):
                self.right(tree[:at] + (thing,) + tree[at + 1:], False)
                for part in range(3):
                    node = list(tree[at])
                    node[part] = thing
                    # The first inner node may do without one of its kids, which is a root then.
                    wanted = tuple(node) == tree[at] or (at, part, thing) == (3, 1, (1,))
                    self.right(tree[:at] + (tuple(node),) + tree[at + 1:], wanted)

    def test_random_trees_with_parts_changed(self):
        source = random.Random(41)
        for turn in range(60):
            scene = read_scene(World(source, halves=0.05).text())
            tree = random_tree(source, scene, (1, 2))
            self.right(tree, True, (1, 2), scene)
            if tree and tree[-1][0] == "node":
                self.right(tree[:-1], True, (1, 2), scene)
            for at, node in enumerate(tree):
                if node[0] == "thing":
                    self.right(tree[:at] + tree[at + 1:], False, (1, 2), scene)
                    self.right(tree + (node,), False, (1, 2), scene)
                    self.right(tree[:at] + (("thing", node[1] + "x", node[2]),) + tree[at + 1:], False, (1, 2), scene)


class TreeOf(Exactly):
    def test_none(self):
        self.tells(tree_of(scene_of(), NOW), ())
        self.tells(tree_of(scene_of(*ROWS[:6], "show c red", "show f red"), NOW), ())

    def test_one(self):
        self.tells(tree_of(scene_of(*ROWS[:7], "show c red", "show f red"), NOW), (("thing", "a", A),))

    def test_several(self):
        scene = scene_of(*ROWS)
        for moment in (NOW, (7, 3), (-1, 1)):
            tree = tree_of(scene, moment)
            self.tells(right_tree(scene, moment, tree), True)
            self.assertEqual(len(roots_of(tree)), 1)

    def test_random_worlds(self):
        source = random.Random(42)
        many = []
        for turn in range(80):
            scene = read_scene(World(source, many=source.randint(1, 4), halves=0.1).text())
            for moment in (NOW, (1, 2)):
                tree = tree_of(scene, moment)
                self.tells(right_tree(scene, moment, tree), True)
                boxed = [one for one in boxes_of(scene, moment).values() if one not in (None, ())]
                self.assertEqual(len(roots_of(tree)), min(1, len(boxed)))
                many.append(len(boxed))
        self.assertEqual(set(many), {0, 1, 2, 3, 4})

    def test_eight_things(self):
        names = "abcdefgh"
        rows = [f"box {name} {at * at} {at} 0 {at * at + 1} {at + 1} 1" for at, name in enumerate(names)]
        scene = scene_of(*rows, *[f"show {name} red" for name in names])
        tree = tree_of(scene, NOW)
        self.tells(right_tree(scene, NOW, tree), True)
        self.assertEqual(len(roots_of(tree)), 1)


class Calls(Exactly):
    def test_nothing_is_changed_and_the_same_is_told(self):
        scene = scene_of(*ROWS)
        self.changes_nothing(box_stretch, UNIT, ray_of("-1 1/2 1/2", "1 0 0"))
        self.changes_nothing(tree_of, scene, (1, 2))
        for thing in anything() + [None, tree_of(scene, (1, 2))]:
            self.changes_nothing(right_tree, scene, (1, 2), thing)

    def test_names_and_arguments(self):
        for name, arguments in (
            ("box_stretch", ["box", "ray"]), ("right_tree", ["scene", "moment", "tree"]), ("tree_of", ["scene", "moment"]),
        ):
            function = getattr(trees, name)
            self.assertEqual(list(inspect.signature(function).parameters), arguments)
            self.assertEqual((function.__name__, function.__module__), (name, "scenetongue.trees"))


if __name__ == "__main__":
    unittest.main()
