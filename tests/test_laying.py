"""Bodies laid out: leaves as they stand, shapes, and boxes that hold them."""
import inspect
import itertools
import random
import unittest
from fractions import Fraction

from helping import Exactly, fr, lines, pt
from scenetongue import laying
from scenetongue.laying import box_of, laid_out
from scenetongue.reading import read_scene

NOUGHTS = pt("0 0 0")
UNTURNED = (pt("1 0 0"), pt("0 1 0"), pt("0 0 1"))
BOX = ("box", pt("0 0 0"), pt("1 2 3"))
BALL = ("ball", pt("1 1/2 -1"), (3, 2))
HALF = ("half", pt("1 -2 1/2"), (1, 3))
START = ("box a 0 0 0 1 2 3", "ball b 1 1/2 -1 3/2", "half h 1 -2 1/2 1/3")
NOW = (0, 1)


def laid(name, *rows, moment=NOW):
    return laid_out(read_scene(lines(*START, *rows)), name, moment)


def turned(axis, cosine, sine, point):
    """[7]'s words on a turned point, in Fractions."""
    x, y, z = point
    if axis == "x":
        return (x, cosine * y - sine * z, sine * y + cosine * z)
    if axis == "y":
        return (cosine * x + sine * z, y, cosine * z - sine * x)
    return (cosine * x - sine * y, sine * x + cosine * y, z)


def in_form(form, point):
    if form[0] == "box":
        return all(Fraction(*low) < one < Fraction(*high) for low, one, high in zip(form[1], point, form[2]))
    numbers = [Fraction(*one) for one in form[1]]
    if form[0] == "ball":
        return sum((one - other) ** 2 for one, other in zip(point, numbers)) < Fraction(*form[2]) ** 2
    return sum(one * other for one, other in zip(point, numbers)) < Fraction(*form[2])


def in_body(bodies, number, point):
    """Whether a point is in a body as the table of lines has it: what was done to the body is undone to the point."""
    form = bodies[number][1]
    if form[0] in ("box", "ball", "half"):
        return in_form(form, point)
    if form[0] == "slide":
        return in_body(bodies, form[1], [one - Fraction(*other) for one, other in zip(point, form[2])])
    if form[0] == "turn":
        return in_body(bodies, form[1], turned(form[2], Fraction(*form[3]), -Fraction(*form[4]), point))
    one, other = in_body(bodies, form[1], point), in_body(bodies, form[2], point)
    return made(form[0], one, other)


def made(word, one, other):
    return {"join": one or other, "cut": one and not other, "meet": one and other}[word]


def in_leaf(leaf, point):
    """Whether a point is in a leaf as it stands: the turn's columns are the ways of x, y, z as they stand."""
    name, form, turn, slide = leaf
    moved = [one - Fraction(*other) for one, other in zip(point, slide)]
    own = [sum(Fraction(*turn[row][column]) * moved[row] for row in range(3)) for column in range(3)]
    return in_form(form, own)


def in_shape(leaves, shape, point):
    held = []
    for part in shape:
        if isinstance(part, str):
            second, first = held.pop(), held.pop()
            held.append(made(part, first, second))
        else:
            held.append(in_leaf(leaves[part], point))
    (told,) = held
    return told


class LaidOut(Exactly):
    def test_single_leaves(self):
        for name, form in (("a", BOX), ("b", BALL), ("h", HALF)):
            self.tells(laid(name, f"show {name} red"), (((name, form, UNTURNED, NOUGHTS),), (0,)))

    def test_a_slide_and_slides_in_a_row(self):
        self.tells(laid("c", "slide c a 1 -1/2 3", "show c red"), ((("a", BOX, UNTURNED, pt("1 -1/2 3")),), (0,)))
        rows = ("slide c b 1 -1/2 3", "slide d c -3 1 1/3", "show d red")
        self.tells(laid("d", *rows), ((("b", BALL, UNTURNED, pt("-2 1/2 10/3")),), (0,)))
        self.tells(laid("c", "slide c h 0 0 0", "show c red"), ((("h", HALF, UNTURNED, NOUGHTS),), (0,)))

    def test_turns_about_each_axis(self):
        for cosine, sine in (("0", "1"), ("0", "-1"), ("-1", "0"), ("1", "0"), ("3/5", "4/5"), ("-4/5", "3/5")):
            c, s, back = fr(cosine), fr(sine), fr(-Fraction(sine))
            for axis, turn in (
                ("x", (pt("1 0 0"), ((0, 1), c, back), ((0, 1), s, c))),
                ("y", ((c, (0, 1), s), pt("0 1 0"), (back, (0, 1), c))),
                ("z", ((c, back, (0, 1)), (s, c, (0, 1)), pt("0 0 1"))),
            ):
                told = laid("c", f"turn c a {axis} {cosine} {sine}", "show c red")
                self.tells(told, ((("a", BOX, turn, NOUGHTS),), (0,)))

    def test_a_quarter_turns_the_way_the_table_tells(self):
        for axis, corner in (("x", "1 -3 2"), ("y", "3 2 -1"), ("z", "-2 1 3")):
            leaf = laid("c", f"turn c a {axis} 0 1", "show c red")[0][0]
            far = [sum(Fraction(*one) * own for one, own in zip(row, (1, 2, 3))) for row in leaf[2]]
            self.tells(pt(*far), pt(corner))

    def test_slid_then_turned_and_turned_then_slid(self):
        quarter = (pt("0 -1 0"), pt("1 0 0"), pt("0 0 1"))
        rows = ("slide c a 5 0 1", "turn d c z 0 1", "show d red")
        self.tells(laid("d", *rows), ((("a", BOX, quarter, pt("0 5 1")),), (0,)))
        rows = ("turn c a z 0 1", "slide d c 5 0 1", "show d red")
        self.tells(laid("d", *rows), ((("a", BOX, quarter, pt("5 0 1")),), (0,)))

    def test_turns_in_a_row_are_done_in_their_order(self):
        rows = ("turn c a x 0 1", "turn d c z 0 1", "show d red")
        self.tells(laid("d", *rows)[0][0][2], (pt("0 0 1"), pt("1 0 0"), pt("0 1 0")))
        rows = ("turn c a z 0 1", "turn d c x 0 1", "show d red")
        self.tells(laid("d", *rows)[0][0][2], (pt("0 -1 0"), pt("0 0 -1"), pt("1 0 0")))
        rows = ("turn c a z 3/5 4/5", "turn d c z 3/5 4/5", "show d red")
        self.tells(laid("d", *rows)[0][0][2], (pt("-7/25 -24/25 0"), pt("24/25 -7/25 0"), pt("0 0 1")))
        rows = ("turn c a z 3/5 4/5", "turn d c z 3/5 -4/5", "show d red")
        self.tells(laid("d", *rows)[0][0][2], UNTURNED)

    def test_join_cut_meet_in_each_order(self):
        leaf_a, leaf_b = ("a", BOX, UNTURNED, NOUGHTS), ("b", BALL, UNTURNED, NOUGHTS)
        for word in ("join", "cut", "meet"):
            self.tells(laid("c", f"{word} c a b", "show c red"), ((leaf_a, leaf_b), (0, 1, word)))
            self.tells(laid("c", f"{word} c b a", "show c red"), ((leaf_b, leaf_a), (0, 1, word)))
            self.tells(laid("c", f"{word} c a a", "show c red"), ((leaf_a, leaf_a), (0, 1, word)))

    def test_shapes_of_several(self):
        rows = ("cut c a b", "meet d h c", "join e c d", "show e red", "show d red")
        leaves, shape = laid("e", *rows)
        self.tells([leaf[0] for leaf in leaves], ["a", "b", "h", "a", "b"])
        self.tells(shape, (0, 1, "cut", 2, 3, 4, "cut", "meet", "join"))
        leaves, shape = laid("d", *rows)
        self.tells([leaf[0] for leaf in leaves], ["h", "a", "b"])
        self.tells(shape, (0, 1, 2, "cut", "meet"))

    def test_a_body_used_again_under_other_slides(self):
        rows = ("slide c a 1 0 0", "slide d a 0 1 0", "join e c d", "turn f e z 0 1", "cut g e f", "show g red")
        leaves, shape = laid("g", *rows)
        quarter = (pt("0 -1 0"), pt("1 0 0"), pt("0 0 1"))
        self.tells(leaves, (
            ("a", BOX, UNTURNED, pt("1 0 0")), ("a", BOX, UNTURNED, pt("0 1 0")),
            ("a", BOX, quarter, pt("0 1 0")), ("a", BOX, quarter, pt("-1 0 0")),
        ))
        self.tells(shape, (0, 1, "join", 2, 3, "join", "cut"))

    def test_a_body_with_itself_to_eight_leaves(self):
        rows = ("join c a a", "cut d c c", "meet e d d", "show e red")
        leaves, shape = laid("e", *rows)
        self.tells(leaves, (("a", BOX, UNTURNED, NOUGHTS),) * 8)
        self.tells(shape, (0, 1, "join", 2, 3, "join", "cut", 4, 5, "join", 6, 7, "join", "cut", "meet"))

    def test_moves_at_moments(self):
        rows = ("slide c a 1 1 1", "turn d c z 0 1", "show d red move 1 -2/3 0", "show a red")
        quarter = (pt("0 -1 0"), pt("1 0 0"), pt("0 0 1"))
        for moment, slide in (
            ((0, 1), "-1 1 1"), ((1, 1), "0 1/3 1"), ((3, 1), "2 -1 1"), ((-1, 1), "-2 5/3 1"), ((1, 2), "-1/2 2/3 1"),
            ((-3, 4), "-7/4 3/2 1"),
        ):
            self.tells(laid("d", *rows, moment=moment), ((("a", BOX, quarter, pt(slide)),), (0,)))
            self.tells(laid("a", *rows, moment=moment), ((("a", BOX, UNTURNED, NOUGHTS),), (0,)))

    def test_a_move_goes_to_each_leaf_unturned(self):
        rows = ("turn c a x 3/5 4/5", "join d c b", "show d red move 1 2 3")
        leaves, shape = laid("d", *rows, moment=(2, 1))
        self.tells([leaf[3] for leaf in leaves], [pt("2 4 6"), pt("2 4 6")])
        self.tells(leaves[0][2], (pt("1 0 0"), pt("0 3/5 -4/5"), pt("0 4/5 3/5")))

    def test_a_moment_of_300_figures(self):
        moment = (10 ** 299 + 1, 7 ** 354)
        leaves, shape = laid("a", "show a red move 1 -2/3 0", moment=moment)
        self.tells(leaves[0][3], (moment, fr(Fraction(*moment) * Fraction(-2, 3)), (0, 1)))

    def test_a_chain_of_forty_bodies(self):
        names = ["q" + letter for letter in "abcdefghijklmnopqrstuvwxyz"] + ["r" + letter for letter in "abcdefghijk"]
        rows = [f"slide {names[0]} a 1 2 3"]
        rows += [f"slide {later} {name} 1 2 3" for name, later in zip(names, names[1:])]
        told = laid(names[-1], *rows, f"show {names[-1]} red")
        self.tells(told, ((("a", BOX, UNTURNED, pt("37 74 111")),), (0,)))


def random_thing(seed):
    """The text of a scene with one thing of a few leaves, and its name."""
    source = random.Random(seed)
    names = list("cdefghijkl".replace("h", "m"))
    bodies = {"a": 1, "b": 1, "h": 1}
    rows = list(START)
    for name in names:
        word = source.choice(("join", "cut", "meet", "slide", "turn", "turn", "slide"))
        one, other = source.choice(list(bodies)), source.choice(list(bodies))
        if word == "slide":
            rows.append(f"slide {name} {one} {source.randint(-2, 2)} {source.randint(-2, 2)}/3 {source.randint(-2, 2)}")
            rows[-1] = rows[-1].replace(" 0/3", " 0")
            bodies[name] = bodies[one]
        elif word == "turn":
            pair = source.choice(("0 1", "0 -1", "-1 0", "3/5 4/5", "5/13 -12/13"))
            rows.append(f"turn {name} {one} {source.choice('xyz')} {pair}")
            bodies[name] = bodies[one]
        elif bodies[one] + bodies[other] <= 8:
            rows.append(f"{word} {name} {one} {other}")
            bodies[name] = bodies[one] + bodies[other]
    name = list(bodies)[-1]
    rows.append(f"show {name} red move {source.randint(-2, 2)} 1/2 0")
    return lines(*rows), name


class AsTheTableTells(Exactly):
    def test_points_are_in_the_leaves_as_in_the_body(self):
        source = random.Random(5)
        for seed in range(60):
            text, name = random_thing(seed)
            scene = read_scene(text)
            number, colour, mirror, move = scene[1][0]
            moment = source.choice(((0, 1), (1, 1), (-2, 3)))
            leaves, shape = laid_out(scene, name, moment)
            box = box_of(leaves, shape)
            for point in itertools.repeat(None, 40):
                point = [Fraction(source.randint(-40, 40), 9) for place in range(3)]
                still = [one - Fraction(*by) * Fraction(*moment) for one, by in zip(point, move)]
                wanted = in_body(scene[0], number, still)
                self.assertIs(in_shape(leaves, shape, point), wanted)
                if wanted and box is not None:
                    self.assertNotEqual(box, ())
                    for low, one, high in zip(box[0], point, box[1]):
                        self.assertTrue(Fraction(*low) <= one <= Fraction(*high))


def box_leaf(low, high, turn=UNTURNED, slide=NOUGHTS):
    return ("a", ("box", pt(low), pt(high)), turn, slide)


class BoxOf(Exactly):
    one, two = box_leaf("0 0 0", "2 2 2"), box_leaf("1 1 1", "3 4 5")
    edge, corner, far = box_leaf("2 0 0", "3 2 2"), box_leaf("2 2 2", "3 3 3"), box_leaf("5 0 0", "6 2 2")
    half = ("h", HALF, UNTURNED, NOUGHTS)

    def boxes(self, leaves, shape, wanted):
        if isinstance(wanted, str):
            low, high = wanted.split(" to ")
            wanted = (pt(low), pt(high))
        self.tells(box_of(leaves, shape), wanted)

    def test_single_leaves(self):
        self.boxes((self.one,), (0,), "0 0 0 to 2 2 2")
        self.boxes((("b", BALL, UNTURNED, NOUGHTS),), (0,), "-1/2 -1 -5/2 to 5/2 2 1/2")
        self.boxes((self.half,), (0,), None)

    def test_leaves_slid_and_turned(self):
        self.boxes((box_leaf("0 0 0", "1 2 3", slide=pt("5 -1/2 0")),), (0,), "5 -1/2 0 to 6 3/2 3")
        quarter = (pt("0 -1 0"), pt("1 0 0"), pt("0 0 1"))
        self.boxes((box_leaf("0 0 0", "1 2 3", quarter),), (0,), "-2 0 0 to 0 1 3")
        turn = (pt("3/5 -4/5 0"), pt("4/5 3/5 0"), pt("0 0 1"))
        self.boxes((box_leaf("0 0 0", "1 2 3", turn, pt("1 1 1")),), (0,), "-3/5 1 1 to 8/5 3 4")
        turn = (pt("1 0 0"), pt("0 3/5 4/5"), pt("0 -4/5 3/5"))
        self.boxes((box_leaf("-1 0 1", "1 2 3", turn),), (0,), "-1 4/5 -1 to 1 18/5 9/5")
        self.boxes((("b", BALL, quarter, pt("0 0 1")),), (0,), "-2 -1/2 -3/2 to 1 5/2 3/2")
        self.boxes((("h", HALF, quarter, pt("0 0 1")),), (0,), None)

    def test_join(self):
        self.boxes((self.one, self.two), (0, 1, "join"), "0 0 0 to 3 4 5")
        self.boxes((self.one, self.far), (0, 1, "join"), "0 0 0 to 6 2 2")
        self.boxes((self.far, self.one), (0, 1, "join"), "0 0 0 to 6 2 2")
        self.boxes((self.one, self.one), (0, 1, "join"), "0 0 0 to 2 2 2")
        self.boxes((self.one, self.half), (0, 1, "join"), None)
        self.boxes((self.half, self.one), (0, 1, "join"), None)
        self.boxes((self.half, self.half), (0, 1, "join"), None)

    def test_cut(self):
        self.boxes((self.one, self.two), (0, 1, "cut"), "0 0 0 to 2 2 2")
        self.boxes((self.one, self.one), (0, 1, "cut"), "0 0 0 to 2 2 2")
        self.boxes((self.one, self.half), (0, 1, "cut"), "0 0 0 to 2 2 2")
        self.boxes((self.half, self.one), (0, 1, "cut"), None)

    def test_meet(self):
        self.boxes((self.one, self.two), (0, 1, "meet"), "1 1 1 to 2 2 2")
        self.boxes((self.two, self.one), (0, 1, "meet"), "1 1 1 to 2 2 2")
        self.boxes((self.one, self.edge), (0, 1, "meet"), "2 0 0 to 2 2 2")
        self.boxes((self.edge, self.one), (0, 1, "meet"), "2 0 0 to 2 2 2")
        self.boxes((self.one, self.corner), (0, 1, "meet"), "2 2 2 to 2 2 2")
        self.boxes((self.one, self.far), (0, 1, "meet"), ())
        self.boxes((self.far, self.one), (0, 1, "meet"), ())
        self.boxes((self.one, self.half), (0, 1, "meet"), "0 0 0 to 2 2 2")
        self.boxes((self.half, self.two), (0, 1, "meet"), "1 1 1 to 3 4 5")
        self.boxes((self.half, self.half), (0, 1, "meet"), None)
        for place in range(3):
            away = pt(*[9 if at == place else 0 for at in range(3)])
            self.boxes((self.one, box_leaf("0 0 0", "2 2 2", slide=away)), (0, 1, "meet"), ())

    def test_nothing_in_each_place(self):
        leaves = (self.one, self.far, self.half)
        nothing = (0, 1, "meet")
        for word, wanted in (("join", "0 0 0 to 2 2 2"), ("cut", ()), ("meet", ())):
            self.boxes(leaves, (*nothing, 0, word), wanted)
        for word, wanted in (("join", "0 0 0 to 2 2 2"), ("cut", "0 0 0 to 2 2 2"), ("meet", ())):
            self.boxes(leaves, (0, *nothing, word), wanted)
        for word, wanted in (("join", None), ("cut", ()), ("meet", ())):
            self.boxes(leaves, (*nothing, 2, word), wanted)
        for word, wanted in (("join", None), ("cut", None), ("meet", ())):
            self.boxes(leaves, (2, *nothing, word), wanted)
        for word in ("join", "cut", "meet"):
            self.boxes(leaves, (*nothing, *nothing, word), ())

    def test_shapes_of_several(self):
        leaves = (self.one, self.two, self.far, self.half)
        self.boxes(leaves, (0, 1, "meet", 2, "join"), "1 0 0 to 6 2 2")
        self.boxes(leaves, (0, 1, 2, "join", "meet"), "1 0 0 to 2 2 2")
        self.boxes(leaves, (0, 1, 2, "join", "cut"), "0 0 0 to 2 2 2")
        self.boxes(leaves, (0, 3, "meet", 1, "meet"), "1 1 1 to 2 2 2")
        self.boxes(leaves, (3, 0, "join", 1, "meet"), "1 1 1 to 3 4 5")

    def test_numbers_of_300_figures(self):
        great, small = Fraction(10 ** 299 + 1, 7), Fraction(-(7 ** 354), 2 ** 994)
        leaf = ("a", ("box", pt(small, 0, 0), pt(great, 1, 1)), UNTURNED, pt(small, 0, 0))
        self.tells(box_of((leaf,), (0,)), (pt(small * 2, 0, 0), pt(great + small, 1, 1)))


class Calls(Exactly):
    def test_nothing_is_changed_and_the_same_is_told(self):
        scene = read_scene(random_thing(7)[0])
        name = scene[0][scene[1][0][0]][0]
        self.changes_nothing(laid_out, scene, name, (1, 2))
        self.changes_nothing(box_of, *laid_out(scene, name, (1, 2)))

    def test_names_and_arguments(self):
        for name, arguments in (("laid_out", ["scene", "name", "moment"]), ("box_of", ["leaves", "shape"])):
            function = getattr(laying, name)
            self.assertEqual(list(inspect.signature(function).parameters), arguments)
            self.assertEqual((function.__name__, function.__module__), (name, "scenetongue.laying"))


if __name__ == "__main__":
    unittest.main()
