"""Papers of asking, and those who ask."""
import inspect
import random
import unittest

from helping import Exactly, anything, flat, pt, ray_of, rooted, scene_of, texts
from making import World, boxes_of, random_tree, roots_of
from scenetongue import asking
from scenetongue.asking import Asker, ByBoxes, Plainly, ask, picture_by, right_asking
from scenetongue.cells import cell_ray, picture, trace
from scenetongue.errors import NoAsker, SceneError
from scenetongue.hits import first_hit, hit_of
from scenetongue.reading import read_scene
from scenetongue.roots import compare
from scenetongue.trees import box_stretch, right_tree, tree_of

NOW = (0, 1)
ALONG = ray_of("0 0 0", "1 0 0")
BACK = ray_of("9 0 0", "-1 0 0")
AWAY = ray_of("0 0 0", "0 0 1")
ROWS = (
    "box a 2 -1 -1 3 1 1", "box b 5 -1 -1 6 1 1", "half c 1 0 0 -9", "box d 2 5 -1 3 6 1", "meet e a d",
    "show b red", "show a red", "show c red", "show d red", "show e red",
)


def box(low, high):
    return (pt(low), pt(high))


# c has no box, and there is nothing in e.
TREE = (
    ("thing", "b", box("5 -1 -1", "6 1 1")), ("thing", "a", box("2 -1 -1", "3 1 1")), ("thing", "d", box("2 5 -1", "3 6 1")),
    ("node", (0, 1), box("2 -1 -1", "6 1 1")), ("node", (2, 3), box("2 -1 -1", "6 6 1")),
)
A, B = ("a", "a", 0, flat(2)), ("b", "b", 0, flat(5))


def rows(words):
    """Rows of a text such as "asked a, miss 2"."""
    told = []
    for part in words.split(", ") if words else []:
        word, what = part.split()
        told.append((word, what if word == "asked" else int(what)))
    return tuple(told)


class RightAsking(Exactly):
    scene = scene_of(*ROWS)

    def right(self, paper, wanted, ray=ALONG, scene=None, tree=TREE, moment=NOW):
        scene = self.scene if scene is None else scene
        self.tells(right_asking(scene, moment, ray, tree, paper), wanted, (paper, ray))

    def test_the_tree_is_one(self):
        self.assertTrue(right_tree(self.scene, NOW, TREE))

    def test_papers_that_are_right(self):
        for words in (
            "asked b, asked a, asked c, asked d, asked e", "asked d, asked c, asked b, asked a", "asked a, asked b, asked c, miss 2",
            "asked a, late 0, asked c, miss 2", "late 0, miss 2, asked c, asked a", "asked a, asked c, late 0, late 2",
            "asked a, asked a, asked c, late 0, late 0, miss 2, miss 2", "asked a, asked b, late 0, asked c, asked d, miss 2, late 2, asked e",
        ):
            self.right((A, rows(words)), True)

    def test_nothing_is_met(self):
        for words in ("asked c, miss 4", "asked c, late 4", "asked c, miss 3, miss 2", "asked c, miss 0, late 1, asked d", "miss 4, asked c, asked e",
                      "asked a, asked b, asked c, asked d", "asked c, miss 4, miss 3, miss 2, miss 1, miss 0", "asked c, late 3, late 2"):
            self.right((None, rows(words)), True, AWAY)
        for words in ("", "asked c", "miss 4", "asked c, miss -1", "asked c, late -1", "asked c, miss 5", "asked c, miss 3", "asked c, miss 2", "asked e, miss 4", "asked c, miss 0, miss 1"):
            self.right((None, rows(words)), False, AWAY)

    def test_things_not_asked_and_beneath_no_node_named(self):
        for words in ("asked a, asked b, asked c", "asked a, asked b, miss 2", "asked a, asked c, miss 2", "asked a, late 0, miss 2",
                      "asked a, asked d, asked e, asked b", "asked a, late 0, asked c", "", "asked a"):
            self.right((A, rows(words)), False)
        self.right((B, rows("asked b, asked c, miss 2")), False)

    def test_a_node_missed_that_is_met(self):
        for words in ("asked a, asked c, miss 2, miss 0", "asked a, asked c, miss 4", "asked a, asked c, miss 2, miss 3",
                      "asked a, asked b, asked c, asked d, miss 0", "asked a, asked b, asked c, asked d, miss 1"):
            self.right((A, rows(words)), False)
        # A ray that just comes to an edge of a box meets it, although nothing is hit there.
        scene, tree = scene_of(*ROWS[:5], "show a red"), TREE[1:2]
        for start, is_missed in (("0 0 0", True), ("0 1 0", False), ("1 3 0", False), ("1 4 0", True), ("2 3 0", True)):
            ray = ray_of(start, "1 -1 0")
            self.assertIsNone(first_hit(scene, NOW, ray))
            self.right((None, (("miss", 0),)), is_missed, ray, scene, tree)
            self.right((None, (("late", 0),)), is_missed, ray, scene, tree)
            self.right((None, (("asked", "a"),)), True, ray, scene, tree)

    def test_late_without_a_hit(self):
        self.right((None, rows("asked c, miss 2, late 3")), False)
        self.right((None, rows("asked c, late 4")), False)
        self.right((None, rows("late 4, asked c")), False, ray_of("0 3 0", "1 0 0"))
        self.right((None, rows("late 3, late 2, asked c")), True, ray_of("0 3 0", "1 0 0"))
        self.right((None, rows("late 4, asked c")), True, ray_of("0 0 9", "1 0 0"))

    def test_late_of_a_node_that_isn_t(self):
        self.right((B, rows("asked b, asked c, miss 2, late 1")), False)
        self.right((A, rows("asked a, asked c, miss 2, late 3")), False)
        self.right((A, rows("asked a, asked c, late 4")), False)
        self.right((A, rows("asked a, asked b, asked c, asked d, late 1")), False)
        self.right((A, rows("asked a, asked b, asked c, asked d, late 0")), True)

    def test_late_is_strict(self):
        rows_of_both = ("box a 2 -1 -1 3 1 1", "box b 2 -1 -1 5 1 1", "show b red", "show a red")
        tree = (("thing", "a", box("2 -1 -1", "3 1 1")), ("thing", "b", box("2 -1 -1", "5 1 1")))
        first, second = ("b", "b", 0, flat(2)), ("a", "a", 0, flat(2))
        scene = scene_of(*rows_of_both)
        self.right((first, rows("asked a, asked b")), True, ALONG, scene, tree)
        self.right((second, rows("asked a, asked b")), False, ALONG, scene, tree)
        self.right((first, rows("asked b, late 0")), False, ALONG, scene, tree)
        self.right((second, rows("asked a, late 1")), False, ALONG, scene, tree)
        # A box that begins an instant later comes late.
        scene = scene_of("box a 200001/100000 -1 -1 3 1 1", *rows_of_both[1:])
        tree = (("thing", "a", box("200001/100000 -1 -1", "3 1 1")), tree[1])
        self.right((first, rows("asked b, late 0")), True, ALONG, scene, tree)

    def test_late_for_a_root(self):
        # The ball is hit at 5 less the root of 3, which is 3.26794919..
        for edge, is_late in (("65359/20000", True), ("163397/50000", False), ("4", True), ("3", False)):
            scene = scene_of("ball m 5 1 0 2", f"box n {edge} -1 -1 9 1 1", "show m red", "show n red")
            tree = (("thing", "m", box("3 -1 -2", "7 3 2")), ("thing", "n", box(f"{edge} -1 -1", "9 1 1")))
            self.assertTrue(right_tree(scene, NOW, tree))
            self.right((("m", "m", 0, rooted(5, -1, 3)), rows("asked m, late 1")), is_late, ALONG, scene, tree)
        # A ball that is hit at a whole number, but written with a root: an equal moment isn't late.
        for edge, is_late in (("3", False), ("300001/100000", True), ("299999/100000", False)):
            scene = scene_of("ball m 5 0 0 2", f"box n {edge} -1 -1 9 1 1", "show m red", "show n red")
            tree = (("thing", "m", box("3 -2 -2", "7 2 2")), ("thing", "n", box(f"{edge} -1 -1", "9 1 1")))
            self.right((("m", "m", 0, rooted(5, -1, 4)), rows("asked m, late 1")), is_late, ALONG, scene, tree)

    def test_boxes_greater_than_need_be(self):
        # The node's box counts, not the thing's: met there, it can't be called missed, nor late.
        great = box("-9 -9 -9", "9 9 9")
        tree = tuple(("thing", name, great) for name in "abd")
        self.assertTrue(right_tree(self.scene, NOW, tree))
        self.right((A, rows("asked a, asked b, asked c, miss 2")), False, tree=tree)
        self.right((A, rows("asked a, asked c, asked d, late 1")), False, tree=tree)
        self.right((A, rows("asked a, asked c, asked d, asked b")), True, tree=tree)

    def test_no_thing_at_all(self):
        scene = scene_of("box a 0 0 0 1 1 1")
        self.right((None, ()), True, ALONG, scene, ())
        self.right((A, ()), False, ALONG, scene, ())
        self.right((None, (("miss", 0),)), False, ALONG, scene, ())
        self.right((None, (("asked", "a"),)), False, ALONG, scene, ())
        self.right((None, ()), True, ALONG, scene_of(*ROWS[:5], "show e red"), ())
        self.right((None, (("asked", "e"),)), True, ALONG, scene_of(*ROWS[:5], "show e red"), ())

    def test_hits(self):
        good = rows("asked a, late 0, asked c, miss 2")
        for hit in (
            B, None, ("a", "a", 1, flat(2)), ("a", None, None, flat(0)), ("a", "b", 0, flat(2)), ("a", "a", False, flat(2)), ("a", "a", 0, flat(3)),
            ("a", "a", 0, rooted(0, 1, 4)), ("a", "a", 0, rooted(2, 0, 5)), ("a", "a", 0, rooted(2, 1, 0)), list(A), A[:3], A + (0,), [A], (A,), (), False,
            ("a", "a", 0, [(2, 1), (0, 1), (0, 1)]), ("a", "a", 0, ((2, True), (0, 1), (0, 1))), ("a", "a", 0, ((2, 1), (False, 1), (0, 1))),
            ("a", "a", 0, ((2, 1), (0, 1), (0, True))), ("a", "a", 0, ((4, 2), (0, 1), (0, 1))), ("a", "a", 0, ([2, 1], (0, 1), (0, 1))),
            ("a", "a", 0, (2, 0, 0)), ("a", "a", "0", flat(2)), (["a"], "a", 0, flat(2)), ("a", "a", 0, None), "a", 2, {0: A}, ("a", "a", 0, flat(2)[:2]),
        ):
            self.right((hit, good), False)
        self.right((A, good), True)

    def test_truths_for_numbers_in_hits(self):
        good = rows("asked a, asked b, asked c, asked d")
        hit = ("b", "b", 1, flat(3))
        self.right((hit, good), True, BACK)
        self.right((("b", "b", True, flat(3)), good), False, BACK)
        one = scene_of("box a 1 -1 -1 2 1 1", "show a red")
        tree = (("thing", "a", box("1 -1 -1", "2 1 1")),)
        self.right((("a", "a", 0, flat(1)), rows("asked a")), True, ALONG, one, tree)
        for t in (((True, 1), (0, 1), (0, 1)), ((1, True), (0, 1), (0, 1)), ((1, 1), (0, True), (0, 1)), ((1, 1), (0, 1), (False, 1))):
            self.right((("a", "a", 0, t), rows("asked a")), False, ALONG, one, tree)

    def test_the_hit_of_a_ray_that_begins_inside(self):
        inside = ray_of("5/2 0 0", "1 0 0")
        self.right((("a", None, None, flat(0)), rows("asked a, late 0, asked c, miss 2")), True, inside)
        self.right((("a", False, None, flat(0)), rows("asked a, late 0, asked c, miss 2")), False, inside)
        self.right((("a", None, False, flat(0)), rows("asked a, late 0, asked c, miss 2")), False, inside)
        self.right((("a", None, 0, flat(0)), rows("asked a, late 0, asked c, miss 2")), False, inside)
        self.right((None, rows("asked a, late 0, asked c, miss 2")), False, inside)

    def test_rows_that_are_none(self):
        good = rows("asked a, asked b, asked c, asked d")
        self.right((A, good), True)
        for row in (
            ("asked", "z"), ("asked", ""), ("asked", "A"), ("asked", 0), ("asked", None), ("asked", ["a"]), ("asked", ("a",)), ("asked", {}), ("asked", True),
            ("miss", "a"), ("miss", 5), ("miss", -1), ("miss", True), ("miss", False), ("miss", None), ("miss", [2]), ("miss", (2,)), ("miss", "2"), ("miss", 10 ** 59),
            ("late", 5), ("late", -1), ("late", True), ("late", False), ("late", None), ("late", "b"), ("late", (0,)), ("late", 10 ** 59), ("late", {}),
            ["asked", "a"], ["miss", 2], ("asked",), ("asked", "a", "a"), ("miss", 2, 2), ("hit", "a"), ("Asked", "a"), ("missed", 2), (None, "a"), (0, 2), (True, 2),
            ("a", "asked"), (2, "miss"), ([], "a"), (("asked",), "a"), (), None, "asked", "asked a", 2, {}, ("", ""), ({}, 2),
        ):
            self.right((A, good + (row,)), False)
            self.right((A, (row,) + good), False)

    def test_papers_that_are_none(self):
        good = rows("asked a, asked b, asked c, asked d")
        for paper in ([A, good], (A,), (A, good, None), (A, list(good)), (A, None), (good, A), (A, dict(enumerate(good))), (A, "asked"), None, (), A, good, {}, (A, good[0])):
            self.right(paper, False)

    def test_anything(self):
        good = rows("asked a, late 0, asked c, miss 2")
        for thing in anything() + texts() + [None]:
            self.right(thing, False)
            self.right((thing, good), False)
            self.right((A, thing), False)
            self.right((A, good + (thing,)), False)
            self.right((A, good + (("asked", thing),)), thing == "a")
            self.right((A, good + (("miss", thing),)), False)
            self.right((A, good + (("late", thing),)), thing == 0 and thing is not False)
            self.right((A, good + ((thing, "a"),)), False)
            self.right((A, good + ((thing, 2),)), False)
            for place in range(4):
                hit = list(A)
                hit[place] = thing
                wanted = (place < 2 and thing == "a") or (place == 2 and thing == 0 and thing is not False)
                self.right((tuple(hit), good), wanted)

    def test_at_a_moment(self):
        scene = scene_of(*ROWS[:5], "show b red move -4 0 0", "show a red move 1 0 0", "show d red")
        tree = (
            ("thing", "b", box("1 -1 -1", "2 1 1")), ("thing", "a", box("3 -1 -1", "4 1 1")), ("thing", "d", box("2 5 -1", "3 6 1")),
        )
        self.right((("b", "b", 0, flat(1)), rows("asked b, late 1, miss 2")), True, ALONG, scene, tree, (1, 1))
        self.right((("a", "a", 0, flat(3)), rows("asked a, late 0, miss 2")), False, ALONG, scene, tree, (1, 1))

    def test_random_papers(self):
        source = random.Random(50)
        counts = {True: 0, False: 0}
        for turn in range(150):
            scene = read_scene(World(source, many=source.randint(1, 4)).text())
            tree = random_tree(source, scene, (1, 2)) if turn % 3 else tree_of(scene, (1, 2))
            for again in range(6):
                ray = random_ray(source)
                paper = random_paper(source, scene, ray, tree)
                told = right_asking(scene, (1, 2), ray, tree, paper)
                self.tells(told, plain_judge(scene, (1, 2), ray, tree, paper), (paper, ray))
                counts[told] += 1
                if told:
                    self.tells(paper[0], first_hit(scene, (1, 2), ray))
        self.assertGreater(min(counts.values()), 150, counts)


def random_ray(source):
    place = [source.randint(-9, 9) for axis in range(3)]
    way = [source.randint(-2, 2) - one for one in place]
    return (pt(*place), pt(*way if any(way) else (1, 2, 3)))


def random_paper(source, scene, ray, tree):
    """A paper of things and nodes at random, often a right one."""
    told = []
    for name in [scene[0][thing[0]][0] for thing in scene[1]]:
        if source.random() < 0.7:
            told.append(("asked", name))
    found = [hit_of(scene, name, (1, 2), ray) for word, name in told]
    least = None
    for one in found:
        if one is not None and (least is None or compare(one[3], least[3]) < 0):
            least = one
    for number, node in enumerate(tree):
        stretch = box_stretch(node[2], ray)
        if stretch is None and source.random() < 0.6:
            told.append((source.choice(("miss", "late")), number))
        elif stretch is not None and least is not None and compare((stretch[0], (0, 1), (0, 1)), least[3]) > 0 and source.random() < 0.8:
            told.append(("late", number))
        elif source.random() < 0.03:
            told.append((source.choice(("miss", "late")), number))
    source.shuffle(told)
    if source.random() < 0.05 and any(found):
        least = source.choice(found)
    return (least, tuple(told))


def beneath(tree, number):
    word, what, box_here = tree[number]
    return {what} if word == "thing" else set().union(*[beneath(tree, kid) for kid in what])


def plain_judge(scene, moment, ray, tree, paper):
    """Whether a paper, well formed, is right, read word by word."""
    hit, told = paper
    boxes = boxes_of(scene, moment)
    asked = [what for word, what in told if word == "asked"]
    covered = set(asked).union(*[beneath(tree, what) for word, what in told if word != "asked"])
    if any(boxes[name] != () and name not in covered for name in boxes):
        return False
    found = [(name, hit_of(scene, name, moment, ray)) for name in boxes if name in asked]
    first = None
    for name, one in found:
        if one is not None and (first is None or compare(one[3], first[3]) < 0):
            first = one
    if first != hit:
        return False
    for word, what in told:
        if word == "asked":
            continue
        stretch = box_stretch(tree[what][2], ray)
        if stretch is None or (word == "late" and hit is not None and compare((stretch[0], (0, 1), (0, 1)), hit[3]) > 0):
            continue
        return False
    return True


class Ask(Exactly):
    def check(self, scene, moment, ray, tree):
        paper = ask(scene, moment, ray, tree)
        self.tells(right_asking(scene, moment, ray, tree, paper), True, (paper, ray))
        self.tells(paper[0], first_hit(scene, moment, ray))
        self.assertEqual(len(paper[1]), len(set(paper[1])))
        asked = [what for word, what in paper[1] if word == "asked"]
        for number, node in enumerate(tree):
            if box_stretch(node[2], ray) is None:
                self.assertFalse(beneath(tree, number) & set(asked), paper)
        return asked

    def test_a_few(self):
        scene = scene_of(*ROWS)
        for ray in (ALONG, BACK, AWAY, ray_of("0 3 0", "1 0 0"), ray_of("5/2 9 0", "0 -1 0"), ray_of("5/2 0 0", "1 0 0"), ray_of("-20 0 0", "1 0 0")):
            for tree in (TREE, TREE[:4], TREE[:3], tree_of(scene, NOW)):
                self.assertTrue(right_tree(scene, NOW, tree))
                self.check(scene, NOW, ray, tree)

    def test_what_is_spared(self):
        scene = scene_of(*ROWS)
        for ray, wanted in ((ALONG, {"a", "c"}), (BACK, {"b", "c"}), (AWAY, {"c"}), (ray_of("5/2 9 0", "0 -1 0"), {"c", "d"})):
            for tree in (TREE, TREE[:3], tree_of(scene, NOW)):
                self.assertEqual(set(self.check(scene, NOW, ray, tree)), wanted)

    def test_ties(self):
        for shown in (("a", "b"), ("b", "a")):
            scene = scene_of("box a 2 -1 -1 3 1 1", "box b 2 -2 -2 5 2 2", *[f"show {name} red" for name in shown])
            a, b = ("thing", "a", box("2 -1 -1", "3 1 1")), ("thing", "b", box("2 -2 -2", "5 2 2"))
            for tree in ((a, b), (b, a), tree_of(scene, NOW)):
                self.check(scene, NOW, ALONG, tree)
                self.assertEqual(ask(scene, NOW, ALONG, tree)[0][0], shown[0])

    def test_a_tie_of_a_thing_without_a_box(self):
        for shown in (("h", "b"), ("b", "h")):
            scene = scene_of("half h -1 0 0 -2", "box b 2 -2 -2 5 2 2", *[f"show {name} red" for name in shown])
            self.check(scene, NOW, ALONG, tree_of(scene, NOW))

    def test_no_things(self):
        self.tells(ask(scene_of(), NOW, ALONG, ()), (None, ()))

    def test_random_worlds(self):
        source = random.Random(51)
        shorter = hits = 0
        for turn in range(120):
            scene = read_scene(World(source, many=source.randint(1, 4), halves=0.1).text())
            for tree in (tree_of(scene, (1, 2)), random_tree(source, scene, (1, 2))):
                for again in range(4):
                    ray = random_ray(source)
                    asked = self.check(scene, (1, 2), ray, tree)
                    shorter += len(set(asked)) < len(scene[1])
                    hits += first_hit(scene, (1, 2), ray) is not None
                    self.assertLessEqual(len(roots_of(tree)), len(tree))
        self.assertGreater(min(shorter, hits), 200)


class Askers(Exactly):
    def test_asker_itself_refuses(self):
        scene = scene_of(*ROWS)
        for asker in (Asker(scene), Asker(scene, moment=(1, 2)), Asker(scene_of())):
            for again in range(2):
                with self.assertRaises(SceneError) as caught:
                    asker.first(ALONG)
                self.assertIs(type(caught.exception), NoAsker)
                self.tells(asker.asks(), 0)
        look = ("eye", pt("0 0 0"), pt("1 -1 -1"), pt("0 2 0"), pt("0 0 2"), 1, 1)
        with self.assertRaises(NoAsker):
            picture_by(Asker(scene), look)

    def test_all_things_plainly(self):
        scene = scene_of(*ROWS)
        asker = Plainly(scene)
        self.tells(asker.asks(), 0)
        for many, ray in enumerate((ALONG, BACK, AWAY, ALONG), start=1):
            self.tells(asker.first(ray), first_hit(scene, NOW, ray))
            self.tells(asker.asks(), 5 * many)
        asker = Plainly(scene_of())
        self.tells((asker.first(ALONG), asker.asks()), (None, 0))

    def test_by_boxes(self):
        scene = scene_of(*ROWS)
        asker = ByBoxes(scene)
        self.tells(asker.asks(), 0)
        for ray, asks in ((ALONG, 2), (BACK, 4), (AWAY, 5), (ALONG, 7)):
            self.tells(asker.first(ray), first_hit(scene, NOW, ray))
            self.tells(asker.asks(), asks)
        asker = ByBoxes(scene_of())
        self.tells((asker.first(ALONG), asker.asks()), (None, 0))

    def test_the_moment_by_its_name_or_left_out(self):
        scene = scene_of(*ROWS[:5], "show a red move 1 0 0")
        for kind in (Plainly, ByBoxes):
            self.tells(kind(scene).first(ALONG), A)
            self.tells(kind(scene, moment=(0, 1)).first(ALONG), A)
            self.tells(kind(scene, moment=(3, 2)).first(ALONG), ("a", "a", 0, flat("7/2")))
            self.tells(kind(moment=(-1, 1), scene=scene).first(ALONG), ("a", "a", 0, flat(1)))
            with self.assertRaises(TypeError):
                kind(scene, (3, 2))

    def test_two_askers_don_t_touch_each_other(self):
        scene = scene_of(*ROWS)
        one, other = ByBoxes(scene), ByBoxes(scene)
        one.first(ALONG)
        self.tells((one.asks(), other.asks()), (2, 0))

    def test_random_worlds(self):
        source = random.Random(52)
        spared = 0
        for turn in range(40):
            scene = read_scene(World(source, many=source.randint(1, 4)).text())
            plainly, by_boxes, wanted = Plainly(scene, moment=(1, 2)), ByBoxes(scene, moment=(1, 2)), 0
            for many in range(1, 8):
                ray = random_ray(source)
                hit, told = ask(scene, (1, 2), ray, tree_of(scene, (1, 2)))
                wanted += len({what for word, what in told if word == "asked"})
                self.tells(plainly.first(ray), first_hit(scene, (1, 2), ray))
                self.tells(by_boxes.first(ray), hit)
                self.tells((plainly.asks(), by_boxes.asks()), (many * len(scene[1]), wanted))
            spared += plainly.asks() - by_boxes.asks()
        self.assertGreater(spared, 100)


class PictureBy(Exactly):
    def test_random_worlds(self):
        source = random.Random(53)
        for turn in range(30):
            scene = read_scene(World(source, room=turn % 2 == 0, cells=(3, 2)).text())
            for look in scene[3]:
                wanted = picture(scene, (1, 2), look)
                for kind in (Plainly, ByBoxes):
                    asker = kind(scene, moment=(1, 2))
                    self.tells(picture_by(asker, look), wanted)
                    self.tells(picture_by(asker, look), wanted)
                self.tells(picture_by(Plainly(scene), look), picture(scene, NOW, look))

    def test_all_first_hits_are_asked_of_the_asker(self):
        scene = read_scene(World(random.Random(57), room=True).text())
        look = scene[3][0]
        rays = [ray for row in range(look[6]) for column in range(look[5]) for ray, hit in trace(scene, NOW, cell_ray(look, column, row))]
        self.assertGreater(len(rays), look[5] * look[6])
        plainly, by_boxes = Plainly(scene), ByBoxes(scene)
        picture_by(plainly, look)
        self.tells(plainly.asks(), len(rays) * len(scene[1]))
        picture_by(by_boxes, look)
        wanted = [len({what for word, what in ask(scene, NOW, ray, tree_of(scene, NOW))[1] if word == "asked"}) for ray in rays]
        self.tells(by_boxes.asks(), sum(wanted))

    def test_an_asker_of_one_s_own(self):
        class Blind(Asker):
            def first(self, ray):
                return None

        class Seen(Plainly):
            def first(self, ray):
                seen.append(ray)
                return Plainly.first(self, ray)

        scene = read_scene(World(random.Random(57), room=True).text())
        look, seen = scene[3][0], []
        self.tells(picture_by(Blind(scene), look), (((),) * look[5],) * look[6])
        self.tells(picture_by(Seen(scene), look), picture(scene, NOW, look))
        self.assertIn(cell_ray(look, 1, 2), seen)


class Calls(Exactly):
    def test_nothing_is_changed_and_the_same_is_told(self):
        scene = scene_of(*ROWS)
        self.changes_nothing(ask, scene, NOW, ALONG, TREE)
        for thing in anything() + [None, ask(scene, NOW, ALONG, TREE)]:
            self.changes_nothing(right_asking, scene, NOW, ALONG, TREE, thing)
        look = ("eye", pt("0 0 0"), pt("1 -1 -1"), pt("0 2 0"), pt("0 0 2"), 2, 2)
        self.tells(picture_by(Plainly(scene), look), picture_by(Plainly(scene), look))

    def test_names_and_arguments(self):
        for name, arguments in (
            ("right_asking", ["scene", "moment", "ray", "tree", "paper"]), ("ask", ["scene", "moment", "ray", "tree"]),
            ("picture_by", ["asker", "look"]),
        ):
            function = getattr(asking, name)
            self.assertEqual(list(inspect.signature(function).parameters), arguments)
            self.assertEqual((function.__name__, function.__module__), (name, "scenetongue.asking"))

    def test_classes(self):
        for kind in (Asker, Plainly, ByBoxes):
            self.assertEqual(kind.__module__, "scenetongue.asking")
            self.assertTrue(issubclass(kind, Asker))
            self.assertEqual(list(inspect.signature(vars(kind)["first"]).parameters), ["self", "ray"])
            self.assertEqual(list(inspect.signature(vars(kind)["asks"]).parameters), ["self"])
            self.assertEqual(str(inspect.signature(kind)), "(scene, *, moment=(0, 1))")


if __name__ == "__main__":
    unittest.main()
