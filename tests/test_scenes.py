"""Scenes: what is one, of anything, and the texts that have them."""
import inspect
import itertools
import random
import unittest

from helping import Exactly, anything, fr, lines, pt, texts
from scenetongue import scenes
from scenetongue.reading import faults, read_scene
from scenetongue.scenes import is_scene, scene_text

NOTHING = ((), (), (), ())
FULL = lines(
    "box a -1/2 0 3 1 2/3 10", "ball b 1 -2 3/7 5/4", "half c 0 -1/2 3 -4/5", "join d a b", "cut e d c", "meet f e e",
    "slide g f 1 -2/3 0", "turn h g x 3/5 -4/5", "turn i h y 0 1", "turn j a z -1 0", "show h red",
    "show a blue mirror", "show b green move 1 -1/2 0", "show c white mirror move 0 0 3/4", "lamp a 1 2 -3/4",
    "lamp z 0 0 0", "look a 0 0 0 -1 -1 1 2 0 0 0 2 0 3 12", "look q 0 0 1/2 1 1 1 1/3 0 0 0 -1 0 1 1",
)
BODY = ("a", ("box", pt("0 0 0"), pt("1 1 1")))
LOOK = ("a", pt("0 0 0"), pt("-1 -1 1"), pt("2 0 0"), pt("0 2 0"), 3, 4)


def names_of_two(many):
    letters = "abcdefghijklmnopqrstuvwxyz"
    return [first + second for first in letters for second in letters][:many]


def random_number(source):
    return fr(f"{source.randint(-9, 9)}/{source.choice((1, 1, 2, 3, 7))}")


def random_body(source, many):
    """A form that speaks of bodies of so many ahead."""
    words = ["box", "ball", "half"] + ["join", "cut", "meet", "slide", "turn"] * (many > 0)
    word = source.choice(words)
    point = tuple(random_number(source) for place in range(3))
    if word == "box":
        return (word, point, tuple(fr(f"{above + 2 * below}/{below}") for above, below in point))
    if word == "ball":
        return (word, point, fr(f"{source.randint(1, 9)}/4"))
    if word == "half":
        return (word, (point[0], (1, 1), point[2]), point[1])
    if word == "slide":
        return (word, source.randrange(many), point)
    if word == "turn":
        cosine, sine = source.choice((("3/5", "4/5"), ("0", "-1"), ("-5/13", "12/13"), ("1", "0")))
        return (word, source.randrange(many), source.choice("xyz"), fr(cosine), fr(sine))
    return (word, source.randrange(many), source.randrange(many))


def leaves_of(bodies, number):
    form = bodies[number][1]
    if form[0] in ("box", "ball", "half"):
        return 1
    return sum(leaves_of(bodies, part) for part in form[1:] if isinstance(part, int))


def random_scene(seed):
    source = random.Random(seed)
    names = names_of_two(40)
    source.shuffle(names)
    bodies = []
    for name in names[:source.randrange(12)]:
        bodies.append((name, random_body(source, len(bodies))))
    shown = [number for number in range(len(bodies)) if leaves_of(bodies, number) <= 8]
    source.shuffle(shown)
    things = tuple(
        (number, source.choice(("red", "move", "mirror")), source.random() < 0.5,
         source.choice((pt("0 0 0"), tuple(random_number(source) for place in range(3)))))
        for number in shown[:8]
    )
    lamps = tuple((name, tuple(random_number(source) for place in range(3))) for name in names[:source.randrange(4)])
    looks = tuple((name, *LOOK[1:5], source.randint(1, 12), source.randint(1, 12)) for name in names[:source.randrange(5)])
    return (tuple(bodies), things, lamps, looks)


def changed(thing, path, worth):
    """The thing with the part at a path changed; worth gets the old part."""
    if not path:
        return worth(thing)
    at, *rest = path
    return thing[:at] + (changed(thing[at], rest, worth),) + thing[at + 1:]


def paths_of(thing, path=()):
    """The paths of all parts of a thing of tuples."""
    yield path
    if isinstance(thing, tuple):
        for at, part in enumerate(thing):
            yield from paths_of(part, (*path, at))


def hex_of(thing):
    """The thing written, with no number too great for Python to write."""
    if isinstance(thing, tuple):
        return "(" + ", ".join(hex_of(part) for part in thing) + ")"
    return hex(thing) if type(thing) is int else repr(thing)


class IsScene(Exactly):
    def is_one(self, thing, wanted=True):
        told = is_scene(thing)
        if told is not wanted:
            self.fail(f"told {told!r} of {hex_of(thing)}")

    def is_none(self, thing):
        self.is_one(thing, False)

    def test_scenes_are(self):
        self.is_one(NOTHING)
        self.is_one(read_scene(FULL))
        for seed in range(200):
            self.is_one(random_scene(seed))

    def test_anything_else_is_none(self):
        for thing in anything() + texts() + [None, b"", 1.5, FULL, list(read_scene(FULL)), [read_scene(FULL)]]:
            self.is_none(thing)

    def test_parts_left_out_twice_or_exchanged(self):
        scene = read_scene(FULL)
        for at in range(4):
            self.is_none(scene[:at] + scene[at + 1:])
            self.is_none(scene[:at + 1] + scene[at:])
        for order in itertools.permutations(range(4)):
            self.is_one(tuple(scene[at] for at in order), order == (0, 1, 2, 3))

    def test_each_part_left_out_or_twice(self):
        scene = read_scene(FULL)
        for path in paths_of(scene):
            part = scene
            for at in path:
                part = part[at]
            if isinstance(part, tuple) and len(path) >= 2:
                for at in range(len(part)):
                    self.is_none(changed(scene, path, lambda old: old[:at] + old[at + 1:]))
                    self.is_none(changed(scene, path, lambda old: old[:at + 1] + old[at:]))

    def test_a_list_for_a_tuple(self):
        scene = read_scene(FULL)
        for path in paths_of(scene):
            thing = changed(scene, path, lambda old: list(old) if isinstance(old, tuple) else [old])
            self.is_none(thing)

    def test_a_wrong_part_anywhere(self):
        scene = read_scene(FULL)
        for path in paths_of(scene):
            for wrong in (None, [], {}, 10 ** 59, "", "Abc", "a b", "a\nlamp c 0 0 0", (1,), (0, 0), (2, 4), 1.5, {1: 2},
                          "abcdefghi", " a", "a ", "#", ("x",), -(10 ** 59), ((),) * 4, NOTHING):
                if path == () and wrong == NOTHING:
                    continue
                self.is_none(changed(scene, path, lambda old: wrong))

    def test_a_truth_for_a_number_and_a_number_for_a_truth(self):
        scene = read_scene(FULL)
        for path in paths_of(scene):
            part = scene
            for at in path:
                part = part[at]
            if isinstance(part, bool):
                self.is_none(changed(scene, path, int))
                self.is_one(changed(scene, path, lambda old: not old))
            elif part in (0, 1):
                self.is_none(changed(scene, path, bool))

    def test_numbers(self):
        for number, wanted in (
            ((0, 1), True), ((999999, 1), True), ((-999999, 999998), True), ((1, 999999), True), ((1000000, 1), False),
            ((-1000000, 1), False), ((1, 1000000), False), ((2, 4), False), ((0, 2), False), ((1, 0), False),
            ((1, -2), False), ((-1, -2), False), ((True, 1), False), ((1, True), False), ([1, 2], False), ((1,), False),
            ((1, 2, 3), False), (1, False), ("1/2", False), (None, False), ((10 ** 59, 1), False),
            ((10 ** 5000, 1), False), ((1, 10 ** 5000), False), ((7 ** 6000, 2 ** 20000), False),
        ):
            for place in range(3):
                point = tuple(number if at == place else (5, 1) for at in range(3))
                self.is_one(((), (), (("a", point),), ()), wanted)

    def test_very_great_numbers_anywhere(self):
        scene = read_scene(FULL)
        for path in paths_of(scene):
            for great in (10 ** 5000, -(10 ** 5000), (10 ** 5000, 1), (1, 10 ** 5000)):
                self.is_none(changed(scene, path, lambda old: great))

    def test_names(self):
        for name, wanted in (("a", True), ("abcdefgh", True), ("mirror", True), ("", False), ("abcdefghi", False),
                             ("A", False), ("a1", False), ("a b", False), (1, False), (None, False), (("a",), False),
                             ("a\n", False), ("\t", False), ("#a", False)):
            self.is_one((((name, BODY[1]),), (), (), ()), wanted)
            self.is_one(((BODY,), ((0, name, False, pt("0 0 0")),), (), ()), wanted)
            self.is_one(((), (), ((name, pt("1 2 3")),), ()), wanted)
            self.is_one(((), (), (), ((name, *LOOK[1:]),)), wanted)

    def test_bodies_that_speak_of_others(self):
        for word in ("join", "cut", "meet"):
            for one, other in itertools.product((-2, -1, 0, 1, 2, 3, 4, True, False, None, "a", (0,), 10 ** 59), repeat=2):
                wanted = one is not False and one is not True and one in (0, 1) and other in (0, 1)
                wanted = wanted and other is not False and other is not True
                rows = (BODY, ("b", BODY[1]), ("c", (word, one, other)), ("d", BODY[1]))
                self.is_one((rows, (), (), ()), wanted)
        for one in (-1, 0, 1, 2, True, None, "a"):
            wanted = one == 0 and one is not False
            self.is_one(((BODY, ("b", ("slide", one, pt("1 2 3"))), ("c", BODY[1])), (), (), ()), wanted)
            self.is_one(((BODY, ("b", ("turn", one, "x", (1, 1), (0, 1))), ("c", BODY[1])), (), (), ()), wanted)

    def test_things(self):
        noughts = pt("0 0 0")
        for thing, wanted in (
            ((0, "red", False, noughts), True), ((1, "red", False, noughts), False), ((-1, "red", False, noughts), False),
            ((False, "red", False, noughts), False), ((0, "red", 0, noughts), False), ((0, "red", 1, noughts), False),
            ((0, "red", None, noughts), False), ((0, "red", False, ()), False), ((0, "red", False, None), False),
            ((0, "red", "mirror", noughts), False), ((0, "red", True, pt("1 2 3")), True), (("a", "red", True, noughts), False),
            ((0, "red", True, noughts, noughts), False), ((0, "red", True), False),
        ):
            self.is_one(((BODY,), (thing,), (), ()), wanted)
        thing = (0, "red", False, noughts)
        self.is_none(((BODY,), (thing, thing), (), ()))
        self.is_none(((BODY,), (thing, (0, "blue", True, noughts)), (), ()))

    def test_forms(self):
        for form, wanted in (
            (("box", pt("0 0 0"), pt("1 1 1")), True), (("box", pt("0 0 0"), pt("1 1 0")), False),
            (("box", pt("1 1 1"), pt("0 0 0")), False), (("ball", pt("0 0 0"), (1, 2)), True),
            (("ball", pt("0 0 0"), (0, 1)), False), (("ball", pt("0 0 0"), (-1, 2)), False),
            (("half", pt("0 0 1"), (0, 1)), True), (("half", pt("0 0 0"), (0, 1)), False), (("half", pt("0 0 1")), False),
            (("cube", pt("0 0 0"), pt("1 1 1")), False), (("show", pt("0 0 0"), pt("1 1 1")), False), ((), False),
            (("box",), False), ((None, 1, 2), False), ((["box"], pt("0 0 0"), pt("1 1 1")), False), ("box", False),
            (({}, 1), False), (("lamp", pt("0 0 0")), False), (("box", pt("0 0 0"), pt("1 1 1"), 1), False),
        ):
            self.is_one(((("a", form),), (), (), ()), wanted)
        for axis, cosine, sine, wanted in (
            ("x", (1, 1), (0, 1), True), ("y", (3, 5), (-4, 5), True), ("z", (0, 1), (1, 1), True),
            ("w", (1, 1), (0, 1), False), (0, (1, 1), (0, 1), False), ("xy", (1, 1), (0, 1), False),
            ("x", (1, 1), (1, 1), False), ("x", 1, 0, False), (("x",), (1, 1), (0, 1), False), (None, (1, 1), (0, 1), False),
            ("", (1, 1), (0, 1), False), ([], (1, 1), (0, 1), False),
        ):
            self.is_one(((BODY, ("b", ("turn", 0, axis, cosine, sine))), (), (), ()), wanted)

    def test_looks(self):
        for count, wanted in ((1, True), (12, True), (0, False), (13, False), (True, False), ((1, 1), False), ("1", False),
                              (None, False), (-1, False), (10 ** 5000, False)):
            self.is_one(((), (), (), ((*LOOK[:5], count, 1),)), wanted)
            self.is_one(((), (), (), ((*LOOK[:5], 1, count),)), wanted)
        self.is_none(((), (), (), ((*LOOK[:2], pt("0 0 0"), *LOOK[3:]),)))
        self.is_none(((), (), (), ((*LOOK[:3], pt("0 0 0"), *LOOK[4:]),)))
        self.is_none(((), (), (), ((*LOOK[:4], pt("3 0 0"), *LOOK[5:]),)))

    def test_names_taken(self):
        self.is_none(((BODY, BODY), (), (), ()))
        self.is_none(((BODY, ("a", ("ball", pt("0 0 0"), (1, 1)))), (), (), ()))
        self.is_none(((), (), (("a", pt("1 2 3")), ("a", pt("1 2 4"))), ()))
        self.is_none(((), (), (), (LOOK, (*LOOK[:6], 5))))
        self.is_one(((BODY,), (), (("a", pt("1 2 3")),), (LOOK,)))

    def test_one_too_many(self):
        names = names_of_two(41)
        for many, wanted in ((40, True), (41, False)):
            self.is_one((tuple((name, BODY[1]) for name in names[:many]), (), (), ()), wanted)
        bodies = tuple((name, BODY[1]) for name in names[:20])
        for many, wanted in ((8, True), (9, False)):
            self.is_one((bodies, tuple((number, "red", False, pt("0 0 0")) for number in range(many)), (), ()), wanted)
        for many, wanted in ((3, True), (4, False), (3000, False)):
            names = names_of_two(676)
            rows = tuple((names[at % 676], pt("1 2 3")) for at in range(many))
            self.is_one(((), (), rows, ()), wanted)
        for many, wanted in ((4, True), (5, False)):
            self.is_one(((), (), (), tuple((name, *LOOK[1:]) for name in names[:many])), wanted)

    def test_8_and_9_leaves(self):
        rows = (BODY, ("b", ("join", 0, 0)), ("c", ("cut", 1, 1)), ("d", ("meet", 2, 2)), ("e", ("join", 3, 0)))
        self.is_one((rows, ((3, "red", False, pt("0 0 0")),), (), ()))
        self.is_none((rows, ((4, "red", False, pt("0 0 0")),), (), ()))
        self.is_one((rows, (), (), ()))

    def test_all_at_their_bounds_with_the_longest_lines(self):
        names = [name + "aaaaaa" for name in names_of_two(40)]
        long, other = (-999998, 999999), (-999998, 999997)
        bodies = [(name, ("box", (long,) * 3, ((999998, 999999),) * 3)) for name in names]
        move = (long, other, long)
        things = [(number, "colourab", True, move) for number in range(8)]
        lamps = [(name, move) for name in names[:3]]
        looks = [(name, (other, long, long), (long, other, long), (long, long, other), (other, other, long), 12, 12)
                 for name in names[:4]]
        scene = (tuple(bodies), tuple(things), tuple(lamps), tuple(looks))
        self.is_one(scene)
        self.assertGreaterEqual(max(map(len, scene_text(scene).split("\n"))), 199)


class SceneText(Exactly):
    def test_the_scene_of_nothing(self):
        self.tells(scene_text(NOTHING), "")

    def test_lines_as_the_table_s(self):
        self.tells(scene_text(read_scene(FULL)), FULL)

    def test_each_line_alone(self):
        start = "box a 0 0 0 1 1 1"
        for row in (
            "box b -1/2 0 3 1 2/3 10", "ball b 1 -2 3/7 5/4", "half b 0 -1/2 3 -4/5", "join b a a", "cut b a a",
            "meet b a a", "slide b a 1 -2/3 0", "turn b a x 3/5 -4/5", "turn b a y 0 1", "turn b a z -1 0", "show a red",
            "show a red mirror", "show a red move 1 -1/2 0", "show a red move 0 0 1", "show a red move 1 0 0",
            "show a red move 0 -1/9 0", "show a mirror mirror move 0 0 3/4", "show a move move 0 0 3/4", "lamp b 1 2 -3/4",
            "look b 0 0 0 -1 -1 1 2 0 0 0 2 0 3 12",
        ):
            self.tells(scene_text(read_scene(lines(start, row))), lines(start, row))
        self.tells(scene_text(read_scene("lamp b 1 2 -3/4")), "lamp b 1 2 -3/4")

    def test_a_move_of_noughts_is_left_out(self):
        for row, wanted in (("show a red move 0 0 0", "show a red"), ("show a red mirror move 0 0 0", "show a red mirror")):
            self.tells(scene_text(read_scene(lines("box a 0 0 0 1 1 1", row))), lines("box a 0 0 0 1 1 1", wanted))

    def test_bodies_things_lamps_looks_in_order(self):
        text = lines(
            "look k 0 0 0 -1 -1 1 2 0 0 0 2 0 3 12", "lamp l 1 2 3", "", "ball b 0 0 0 1", "show b blue", "# remark",
            "  box   a 0 0 0 1 1 1 ", "lamp a 3 2 1", "show a red", "look j 0 0 0 -1 -1 1 2 0 0 0 2 0 1 2",
        )
        self.tells(scene_text(read_scene(text)), lines(
            "ball b 0 0 0 1", "box a 0 0 0 1 1 1", "show b blue", "show a red", "lamp l 1 2 3", "lamp a 3 2 1",
            "look k 0 0 0 -1 -1 1 2 0 0 0 2 0 3 12", "look j 0 0 0 -1 -1 1 2 0 0 0 2 0 1 2",
        ))

    def test_read_again_to_the_same_scene(self):
        for seed in range(300):
            scene = random_scene(seed)
            text = scene_text(scene)
            self.tells(faults(text), ())
            self.tells(read_scene(text), scene)
            self.tells(scene_text(read_scene(text)), text)


class Calls(Exactly):
    def test_nothing_is_changed_and_the_same_is_told(self):
        for thing in anything() + texts() + [None, read_scene(FULL)]:
            self.changes_nothing(is_scene, thing)
        self.changes_nothing(scene_text, read_scene(FULL))

    def test_names_and_arguments(self):
        for name, arguments in (("is_scene", ["thing"]), ("scene_text", ["scene"])):
            function = getattr(scenes, name)
            self.assertEqual(list(inspect.signature(function).parameters), arguments)
            self.assertEqual((function.__name__, function.__module__), (name, "scenetongue.scenes"))


if __name__ == "__main__":
    unittest.main()
