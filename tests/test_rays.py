"""Rays: the stretches of leaves and of things along them."""
import inspect
import itertools
import random
import unittest
from fractions import Fraction

import nearly
from helping import Exactly, flat, fr, pt, ray_of, rooted
from scenetongue import rays
from scenetongue.rays import leaf_stretch, stretches

NOUGHTS = pt("0 0 0")
UNTURNED = (pt("1 0 0"), pt("0 1 0"), pt("0 0 1"))
QUARTER = (pt("0 -1 0"), pt("1 0 0"), pt("0 0 1"))
SLANTED = (pt("3/5 -4/5 0"), pt("4/5 3/5 0"), pt("0 0 1"))
TURNS = (
    UNTURNED, QUARTER, SLANTED, (pt("1 0 0"), pt("0 3/5 -4/5"), pt("0 4/5 3/5")),
    (pt("0 0 1"), pt("1 0 0"), pt("0 1 0")), (pt("3/5 0 4/5"), pt("0 1 0"), pt("-4/5 0 3/5")),
)


def box(low, high, turn=UNTURNED, slide="0 0 0"):
    return ("a", ("box", pt(low), pt(high)), turn, pt(slide))


def ball(middle, radius, turn=UNTURNED, slide="0 0 0"):
    return ("b", ("ball", pt(middle), fr(radius)), turn, pt(slide))


def half(way, bound, turn=UNTURNED, slide="0 0 0"):
    return ("h", ("half", pt(way), fr(bound)), turn, pt(slide))


def reach(begin, end, first, last):
    """A stretch between flat sides, None without end."""
    return (None if begin is None else flat(begin), None if end is None else flat(end), first, last)


class RayCase(Exactly):
    def goes(self, leaf, place, way, wanted):
        self.tells(leaf_stretch(leaf, ray_of(place, way)), wanted, (leaf, place, way))


class Boxes(RayCase):
    box = box("0 0 0", "1 2 3")

    def test_each_face_from_each_side(self):
        for place, way, wanted in (
            ("-2 1 1", "1 0 0", (2, 3, 0, 1)), ("3 1 1", "-1 0 0", (2, 3, 1, 0)),
            ("1/2 -2 1", "0 1 0", (2, 4, 2, 3)), ("1/2 5 1", "0 -1 0", (3, 5, 3, 2)),
            ("1/2 1 -1", "0 0 1", (1, 4, 4, 5)), ("1/2 1 6", "0 0 -1", (3, 6, 5, 4)),
        ):
            self.goes(self.box, place, way, reach(*wanted))

    def test_a_way_of_another_length(self):
        self.goes(self.box, "-2 1 1", "4 0 0", reach("1/2", "3/4", 0, 1))
        self.goes(self.box, "-2 1 1", "1/3 0 0", reach(6, 9, 0, 1))

    def test_a_ray_that_begins_inside_or_behind(self):
        self.goes(self.box, "1/2 1 1", "1 0 0", reach("-1/2", "1/2", 0, 1))
        self.goes(self.box, "5 1 1", "1 0 0", reach(-5, -4, 0, 1))
        self.goes(self.box, "0 1 1", "1 0 0", reach(0, 1, 0, 1))
        self.goes(self.box, "1 1 1", "1 0 0", reach(-1, 0, 0, 1))

    def test_a_ray_that_misses(self):
        for place, way in (
            ("-2 3 1", "1 0 0"), ("-2 1 4", "1 0 0"), ("-2 -1 1", "1 0 0"), ("-2 1 -1", "1 0 0"), ("5 1 1", "0 1 0"),
            ("-1 1 1", "0 0 1"), ("-1 0 1", "1 3 0"), ("-3 1 1", "1 1 0"), ("2 4 2", "1 1 0"),
        ):
            self.goes(self.box, place, way, None)

    def test_a_ray_in_a_side_s_plane(self):
        for place, way in (
            ("0 1 -5", "0 0 1"), ("1 1 -5", "0 0 1"), ("1/2 0 -5", "0 0 1"), ("1/2 2 9", "0 0 -1"),
            ("-5 1 0", "1 0 0"), ("-5 1 3", "1 0 0"), ("0 1 1", "0 1 1"), ("0 0 0", "0 1 1"), ("1 0 -1", "0 1 1"),
        ):
            self.goes(self.box, place, way, None)

    def test_a_ray_along_an_edge_or_through_one(self):
        self.goes(self.box, "0 0 -5", "0 0 1", None)
        self.goes(self.box, "-1 2 3", "1 0 0", None)
        self.goes(self.box, "-1 1 1", "1 -1 0", None)
        self.goes(self.box, "-1 3 1", "1 -1 0", reach(1, 2, 0, 1))
        self.goes(self.box, "0 3 1", "1 -1 0", None)

    def test_of_several_faces_the_least_number(self):
        cube = box("0 0 0", "1 1 1")
        self.goes(cube, "-1 -1 -1", "1 1 1", reach(1, 2, 0, 1))
        self.goes(cube, "2 2 2", "-1 -1 -1", reach(1, 2, 1, 0))
        self.goes(cube, "-1 2 2", "1 -1 -1", reach(1, 2, 0, 1))
        self.goes(cube, "2 -1 2", "-1 1 -1", reach(1, 2, 1, 0))
        self.goes(cube, "1/2 -1 -1", "0 1 1", reach(1, 2, 2, 3))
        self.goes(cube, "1/2 2 -1", "0 -1 1", reach(1, 2, 3, 2))
        self.goes(cube, "-1 1/2 -1", "1 0 1", reach(1, 2, 0, 1))
        self.goes(cube, "-1 1/2 2", "1 0 -1", reach(1, 2, 0, 1))
        self.goes(cube, "-1 -1/2 -1/2", "1 1/2 1/2", reach(1, 2, 0, 1))
        self.goes(cube, "-1/2 -1 -1/2", "1/2 1 1/2", reach(1, 2, 0, 3))
        self.goes(cube, "-1/2 -1 -1", "1 1 1", reach(1, "3/2", 2, 1))
        self.goes(cube, "-1/2 -1/2 -1", "1 1 1", reach(1, "3/2", 4, 1))
        self.goes(cube, "-1 -1 -1/2", "1 1 1", reach(1, "3/2", 0, 5))
        self.goes(cube, "-1 -1/2 -1/2", "1 1 1", reach(1, "3/2", 0, 3))

    def test_leaves_slid_and_turned(self):
        slid = box("0 0 0", "1 2 3", slide="10 0 0")
        self.goes(slid, "0 1 1", "1 0 0", reach(10, 11, 0, 1))
        turned = box("0 0 0", "1 2 3", QUARTER, "10 0 0")
        self.goes(turned, "0 1/2 1", "1 0 0", reach(8, 10, 3, 2))
        self.goes(turned, "9 -5 1", "0 1 0", reach(5, 6, 0, 1))
        self.goes(turned, "0 3/2 1", "1 0 0", None)

    def test_a_slanted_box_by_its_own_sides(self):
        # The ray goes along the box's own x, which stands at 3/5 4/5 0.
        slanted = box("0 0 0", "5 5 5", SLANTED)
        self.goes(slanted, "-4/5 3/5 1", "3/5 4/5 0", reach(0, 5, 0, 1))
        self.goes(slanted, "0 0 1", "3/5 4/5 0", None)
        self.goes(slanted, "-4 3 1", "3/5 4/5 0", None)


class HalfSpaces(RayCase):
    def test_towards_away_and_along(self):
        space = half("0 0 2", 6)
        self.goes(space, "0 0 0", "0 0 1", reach(None, 3, None, 0))
        self.goes(space, "0 0 0", "1 1 1/2", reach(None, 6, None, 0))
        self.goes(space, "0 0 0", "0 0 -1", reach(-3, None, 0, None))
        self.goes(space, "0 0 5", "0 0 -1", reach(2, None, 0, None))
        self.goes(space, "0 0 3", "0 0 1", reach(None, 0, None, 0))
        self.goes(space, "0 0 2", "1 0 0", (None, None, None, None))
        self.goes(space, "0 0 3", "1 0 0", None)
        self.goes(space, "0 0 4", "1 1 0", None)

    def test_turned_and_slid(self):
        space = half("1 0 0", 0, QUARTER, "0 5 0")
        self.goes(space, "0 0 0", "0 1 0", reach(None, 5, None, 0))
        self.goes(space, "0 0 0", "0 -1 0", reach(-5, None, 0, None))
        self.goes(space, "0 4 0", "1 0 0", (None, None, None, None))
        self.goes(space, "0 5 0", "1 0 0", None)
        space = half("1 0 0", 1, SLANTED)
        self.goes(space, "0 0 0", "1 0 0", reach(None, "5/3", None, 0))
        self.goes(space, "0 0 0", "4 -3 0", (None, None, None, None))


class Balls(RayCase):
    def test_met_as_the_document_writes_it(self):
        self.goes(ball("0 0 0", 1), "-3 0 0", "1 0 0", (rooted(3, -1, 1), rooted(3, 1, 1), 0, 0))
        self.goes(ball("0 0 0", 2), "-3 1 0", "1 0 0", (rooted(3, -1, 3), rooted(3, 1, 3), 0, 0))
        self.goes(ball("0 0 0", 2), "-3 1 0", "2 0 0", (rooted("3/2", "-1/4", 12), rooted("3/2", "1/4", 12), 0, 0))
        self.goes(ball("0 0 0", 2), "3 1 0", "1 0 0", (rooted(-3, -1, 3), rooted(-3, 1, 3), 0, 0))
        self.goes(ball("0 0 0", 2), "0 0 0", "1 1 1", (rooted(0, "-1/3", 12), rooted(0, "1/3", 12), 0, 0))
        self.goes(ball("1 2 3", "1/2"), "1 2 0", "0 0 3", (rooted(1, "-1/9", "9/4"), rooted(1, "1/9", "9/4"), 0, 0))

    def test_missed_and_just_touched(self):
        for place, way in (("-3 2 0", "1 0 0"), ("-3 3 0", "1 0 0"), ("0 0 2", "1 0 0"), ("2 5 0", "0 -1 0"), ("9 9 9", "1 0 0")):
            self.goes(ball("0 0 0", 2), place, way, None)
        self.goes(ball("0 0 0", 2), "-3 1999999/1000000 0", "1 0 0", (
            rooted(3, -1, 4 - Fraction(1999999, 1000000) ** 2), rooted(3, 1, 4 - Fraction(1999999, 1000000) ** 2), 0, 0))

    def test_turned_and_slid(self):
        self.goes(ball("5 0 0", 1, QUARTER), "0 5 -3", "0 0 1", (rooted(3, -1, 1), rooted(3, 1, 1), 0, 0))
        self.goes(ball("5 0 0", 1, QUARTER, "1 0 0"), "1 5 -3", "0 0 1", (rooted(3, -1, 1), rooted(3, 1, 1), 0, 0))
        self.goes(ball("5 0 0", 1, SLANTED), "3 4 -3", "0 0 1", (rooted(3, -1, 1), rooted(3, 1, 1), 0, 0))
        self.goes(ball("5 0 0", 1, QUARTER), "5 0 -3", "0 0 1", None)


SOURCE_WAYS = [pt(*way) for way in itertools.product((-1, 0, 1), repeat=3) if any(way)] + [pt("1 2 -3"), pt("1/2 -1/3 0")]


def random_leaf(source):
    turn = source.choice(TURNS)
    slide = tuple(fr(source.randint(-2, 2)) for place in range(3))
    point = [source.randint(-2, 2) for place in range(3)]
    kind = source.choice(("box", "box", "ball", "ball", "half"))
    if kind == "box":
        return ("a", ("box", pt(*point), pt(*[one + source.randint(1, 3) for one in point])), turn, slide)
    if kind == "ball":
        return ("b", ("ball", pt(*point), fr(source.choice((1, 2, "3/2", 3)))), turn, slide)
    way = pt(*point) if any(point) else pt("0 0 1")
    return ("h", ("half", way, fr(source.randint(-2, 2))), turn, slide)


def random_ray(source):
    return (tuple(fr(source.randint(-3, 3)) for place in range(3)), source.choice(SOURCE_WAYS))


def leaf_along_x(source):
    """A small leaf that a ray along x is likely to meet."""
    kind = source.choice(("box", "box", "ball", "half"))
    slide = f"{source.randint(-4, 4)} {source.choice((0, 0, 1))} 0"
    if kind == "box":
        return box("-1 -1 -1", f"{source.randint(0, 2)} 1 1", source.choice(TURNS), slide)
    if kind == "ball":
        return ball("0 0 0", source.choice((1, "3/2", 2)), source.choice(TURNS), slide)
    return half(source.choice(("1 0 0", "-1 0 0", "0 1 0", "1 1 0")), 0, source.choice(TURNS), slide)


def ray_along_x(source):
    return ray_of(f"{source.randint(-5, 5)} {source.choice((0, 0, '1/2', 1))} 0", source.choice(("1 0 0", "-2 0 0", "3 1/4 0")))


class AgainstFigures(Exactly):
    """Random leaves and shapes, held against the same reading to 150 figures."""

    def agree(self, told, wanted):
        if wanted is None or told is None:
            self.assertEqual(told, wanted)
        else:
            self.assertLess(abs(nearly.near_root(told) - wanted), nearly.TINY)

    def test_leaves(self):
        source = random.Random(1)
        met = 0
        for turn in range(1500):
            leaf, ray = random_leaf(source), random_ray(source)
            told = leaf_stretch(leaf, ray)
            wanted = nearly.span(leaf, nearly.near_point(ray[0]), nearly.near_point(ray[1]))
            self.assertEqual(told is None, wanted is None, (leaf, ray))
            if told is not None:
                met += 1
                for edge in (0, 1):
                    self.agree(told[edge], wanted[edge])
                    self.assertEqual(told[2 + edge] is None, told[edge] is None)
        self.assertGreater(met, 400)

    def test_faces(self):
        source = random.Random(2)
        for turn in range(1500):
            leaf, ray = random_leaf(source), random_ray(source)
            told = leaf_stretch(leaf, ray)
            if told is None or leaf[1][0] != "box":
                continue
            for edge in (0, 1):
                place = nearly.place_at(ray, nearly.near_root(told[edge]))
                own = nearly.own_ray(leaf, place, place)[0]
                sides = [side for both in zip(leaf[1][1], leaf[1][2]) for side in both]
                at = [face for face in range(6) if abs(own[face // 2] - nearly.near(sides[face])) < nearly.TINY]
                self.assertEqual(told[2 + edge], at[0])

    def test_things(self):
        source = random.Random(3)
        several = 0
        for turn in range(3000):
            leaves = tuple(leaf_along_x(source) for at in range(source.randint(1, 6)))
            shape, ray = random_shape(source, len(leaves)), ray_along_x(source)
            place, way = nearly.near_point(ray[0]), nearly.near_point(ray[1])
            wanted = nearly.rows([nearly.span(leaf, place, way) for leaf in leaves], shape)
            told = stretches(leaves, shape, ray)
            self.assertEqual(len(told), len(wanted), (leaves, shape, ray))
            several += len(told) > 1
            spans = [leaf_stretch(leaf, ray) for leaf in leaves]
            for (begin, end, at), row in zip(told, wanted):
                self.agree(begin, row[0])
                self.agree(end, row[1])
                self.tells((begin, at), first_edge(spans, row[0]))
                self.tells(end, first_edge(spans, row[1])[0])
        self.assertGreater(several, 200)


def first_edge(spans, moment):
    """How the first leaf with an edge near a moment writes it, and its number and face."""
    if moment is None:
        return (None, None)
    for leaf, span in enumerate(spans):
        for edge in (0, 1):
            if span is not None and span[edge] is not None:
                if abs(nearly.near_root(span[edge]) - moment) < nearly.TINY:
                    return (span[edge], (leaf, span[2 + edge]))
    raise AssertionError(moment)


def random_shape(source, many):
    """Some shape over leaves, several times or not at all."""
    shape = [source.randrange(many)]
    for step in range(source.randint(0, many)):
        if source.random() < 0.5:
            shape += [source.randrange(many), random_word(source)]
        else:
            shape += [source.randrange(many), source.randrange(many), random_word(source), random_word(source)]
    return tuple(shape)


def random_word(source):
    return source.choice(("join", "join", "cut", "cut", "meet"))


class Things(Exactly):
    """Boxes in a row along x, asked with the ray along x from nought."""

    ray = ray_of("0 0 0", "1 0 0")

    def row(self, *ends):
        return tuple(box(f"{low} -1 -1", f"{high} 1 1") for low, high in ends)

    def stretch(self, leaves, shape, *wanted):
        """wanted has (begin, end, leaf, face) of flat sides."""
        rows = []
        for begin, end, *at in wanted:
            first, last = reach(begin, end, None, None)[:2]
            rows.append((first, last, None if begin is None else tuple(at)))
        self.tells(stretches(leaves, shape, self.ray), tuple(rows))

    def test_one_leaf(self):
        self.stretch(self.row((1, 2)), (0,), (1, 2, 0, 0))
        self.stretch(self.row((-2, -1)), (0,), (-2, -1, 0, 0))
        self.stretch((box("1 5 5", "2 6 6"),), (0,))

    def test_join(self):
        self.stretch(self.row((1, 3), (2, 4)), (0, 1, "join"), (1, 4, 0, 0))
        self.stretch(self.row((1, 2), (3, 4)), (0, 1, "join"), (1, 2, 0, 0), (3, 4, 1, 0))
        self.stretch(self.row((3, 4), (1, 2)), (0, 1, "join"), (1, 2, 1, 0), (3, 4, 0, 0))
        self.stretch(self.row((1, 4), (2, 3)), (0, 1, "join"), (1, 4, 0, 0))

    def test_parts_on_both_sides_of_a_moment(self):
        self.stretch(self.row((1, 2), (2, 3)), (0, 1, "join"), (1, 3, 0, 0))
        self.stretch(self.row((2, 3), (1, 2)), (0, 1, "join"), (1, 3, 1, 0))
        self.stretch(self.row((1, 2), (2, 3), (3, 4)), (0, 1, "join", 2, "join"), (1, 4, 0, 0))
        spaces = (half("1 0 0", 2), half("-1 0 0", -2))
        self.stretch(spaces, (0, 1, "join"), (None, None))

    def test_cut(self):
        self.stretch(self.row((1, 4), (2, 3)), (0, 1, "cut"), (1, 2, 0, 0), (3, 4, 1, 1))
        self.stretch(self.row((1, 4), (2, 5)), (0, 1, "cut"), (1, 2, 0, 0))
        self.stretch(self.row((2, 4), (1, 3)), (0, 1, "cut"), (3, 4, 1, 1))
        self.stretch(self.row((1, 4), (1, 4)), (0, 1, "cut"))
        self.stretch(self.row((1, 4), (0, 5)), (0, 1, "cut"))
        self.stretch(self.row((1, 4), (6, 7)), (0, 1, "cut"), (1, 4, 0, 0))

    def test_a_cut_that_leaves_a_moment_alone(self):
        leaves = self.row((1, 4), (1, 2), (2, 4))
        self.stretch(leaves, (0, 1, "cut", 2, "cut"))
        leaves = self.row((0, 4), (1, 2), (2, 3))
        self.stretch(leaves, (0, 1, "cut", 2, "cut"), (0, 1, 0, 0), (3, 4, 2, 1))

    def test_meet(self):
        self.stretch(self.row((1, 3), (2, 4)), (0, 1, "meet"), (2, 3, 1, 0))
        self.stretch(self.row((2, 4), (1, 3)), (0, 1, "meet"), (2, 3, 0, 0))
        self.stretch(self.row((1, 2), (2, 3)), (0, 1, "meet"))
        self.stretch(self.row((1, 2), (3, 4)), (0, 1, "meet"))

    def test_the_first_leaf_that_has_an_edge_there(self):
        # Leaf 0 ends at 2, where leaf 1 begins: it tells the begin though it isn't what makes it so.
        leaves = self.row((0, 2), (2, 3))
        self.stretch(leaves, (1,), (2, 3, 0, 1))
        self.stretch(leaves, (1, 0, "cut"), (2, 3, 0, 1))
        self.stretch(self.row((2, 3), (0, 2)), (0,), (2, 3, 0, 0))
        self.stretch(self.row((2, 5), (2, 3)), (1,), (2, 3, 0, 0))
        self.stretch(self.row((2, 3), (2, 5)), (1, 0, "join"), (2, 5, 0, 0))

    def test_a_leaf_that_is_never_in_tells_nothing(self):
        leaves = (box("2 5 5", "3 6 6"), *self.row((2, 3)))
        self.stretch(leaves, (1,), (2, 3, 1, 0))
        self.stretch(leaves, (0, 1, "join"), (2, 3, 1, 0))
        leaves = (box("2 1 -1", "3 2 1"), ball("2 1 0", 1), *self.row((2, 3)))
        self.stretch(leaves, (2,), (2, 3, 2, 0))

    def test_shapes_with_a_leaf_several_times_or_not_at_all(self):
        leaves = self.row((1, 4), (2, 3))
        self.stretch(leaves, (0, 0, "join"), (1, 4, 0, 0))
        self.stretch(leaves, (0, 0, "cut"))
        self.stretch(leaves, (0, 1, "cut", 1, "join"), (1, 4, 0, 0))
        self.stretch(leaves, (0, 1, "cut", 0, "meet"), (1, 2, 0, 0), (3, 4, 1, 1))
        self.stretch(leaves, (0,), (1, 4, 0, 0))
        self.stretch(leaves, (1,), (2, 3, 1, 0))
        self.stretch(leaves, (1, 0, "cut"))

    def test_the_order_of_what_stands_ahead(self):
        leaves = self.row((1, 5), (2, 4), (3, 6))
        self.stretch(leaves, (0, 1, 2, "cut", "cut"), (1, 2, 0, 0), (3, 5, 2, 0))
        self.stretch(leaves, (0, 1, "cut", 2, "cut"), (1, 2, 0, 0))

    def test_without_begin_or_end(self):
        below, above = half("1 0 0", 2), half("-1 0 0", -3)
        self.stretch((below,), (0,), (None, 2))
        self.stretch((above,), (0,), (3, None, 0, 0))
        self.stretch((below, above), (0, 1, "join"), (None, 2), (3, None, 1, 0))
        self.stretch((half("0 1 0", 1),), (0,), (None, None))
        self.stretch((half("0 1 0", 0),), (0,))
        self.stretch((half("0 1 0", 1), *self.row((1, 2))), (0, 1, "cut"), (None, 1), (2, None, 1, 1))
        self.stretch((half("0 1 0", 1), half("0 0 1", 1)), (0, 1, "cut"))

    def test_balls_and_boxes_at_equal_moments(self):
        # The ball's begin is 3 less root 4, which is 1.
        leaves = (*self.row((1, 9)), ball("3 0 0", 2))
        self.tells(stretches(leaves, (0, 1, "join"), self.ray), ((flat(1), flat(9), (0, 0)),))
        leaves = leaves[::-1]
        self.tells(stretches(leaves, (0, 1, "join"), self.ray), ((rooted(3, -1, 4), flat(9), (0, 0)),))
        self.tells(stretches(leaves, (0, 1, "meet"), self.ray), ((rooted(3, -1, 4), rooted(3, 1, 4), (0, 0)),))
        self.tells(stretches(leaves, (1, 0, "cut"), self.ray), ((rooted(3, 1, 4), flat(9), (0, 0)),))

    def test_two_balls_of_unlike_roots(self):
        ray = ray_of("0 1 0", "1 0 0")
        leaves = (ball("0 0 0", 2), ball("1/10 0 0", "19/10"))
        first, second = leaf_stretch(leaves[0], ray), leaf_stretch(leaves[1], ray)
        self.tells(stretches(leaves, (0, 1, "join"), ray), ((first[0], first[1], (0, 0)),))
        self.tells(stretches(leaves, (0, 1, "meet"), ray), ((second[0], second[1], (1, 0)),))
        self.tells(stretches(leaves, (0, 1, "cut"), ray), (
            (first[0], second[0], (0, 0)), (second[1], first[1], (1, 0)),
        ))

    def test_numbers_of_300_figures(self):
        great, other = Fraction(10 ** 299 + 1, 7), Fraction(7 ** 354, 2 ** 994)
        leaf = ("a", ("box", pt(-great, -1, -1), pt(great, 1, 1)), UNTURNED, pt(other, 0, 0))
        ray = (pt(other / 3, 0, 0), pt(1 / great, 0, 0))
        begin, end = (fr((side + other - other / 3) * great) for side in (-great, great))
        self.tells(leaf_stretch(leaf, ray), (flat_of(begin), flat_of(end), 0, 1))
        self.tells(stretches((leaf, leaf), (0, 1, "join"), ray), ((flat_of(begin), flat_of(end), (0, 0)),))
        round_one = ("b", ("ball", pt(other, 0, 0), fr(great)), UNTURNED, NOUGHTS)
        told = stretches((leaf, round_one), (0, 1, "cut"), ray)
        self.tells(told, ())


def flat_of(number):
    return (number, (0, 1), (0, 1))


class Calls(Exactly):
    def test_nothing_is_changed_and_the_same_is_told(self):
        leaves = (box("1 -1 -1", "3 1 1"), ball("3 0 0", 2), half("1 1 0", 5, SLANTED))
        ray = ray_of("0 0 0", "1 1/9 0")
        for leaf in leaves:
            self.changes_nothing(leaf_stretch, leaf, ray)
        self.changes_nothing(stretches, leaves, (0, 1, "join", 2, "meet"), ray)

    def test_names_and_arguments(self):
        for name, arguments in (("leaf_stretch", ["leaf", "ray"]), ("stretches", ["leaves", "shape", "ray"])):
            function = getattr(rays, name)
            self.assertEqual(list(inspect.signature(function).parameters), arguments)
            self.assertEqual((function.__name__, function.__module__), (name, "scenetongue.rays"))


if __name__ == "__main__":
    unittest.main()
