"""Worlds at random for the tests: texts of a few things, lamps and looks, also carried elsewhere as a whole; and trees."""
from fractions import Fraction

from helping import fr
from scenetongue.laying import box_of, laid_out

TURNS = (("1", "0"), ("0", "1"), ("-1", "0"), ("0", "-1"), ("3/5", "4/5"), ("-4/5", "3/5"), ("5/13", "-12/13"))
COLOURS = ("red", "green", "blue", "white")


def words(numbers):
    return " ".join(str(number) for number in numbers)


class Carry:
    """A turn about an axis through nought, then a slide."""

    def __init__(self, axis="z", turn=("1", "0"), slide=(0, 0, 0)):
        self.axis, self.turn = axis, turn
        self.slide = tuple(Fraction(number) for number in slide)

    def way(self, way):
        c, s = (Fraction(number) for number in self.turn)
        x, y, z = (Fraction(number) for number in way)
        if self.axis == "x":
            return (x, c * y - s * z, s * y + c * z)
        if self.axis == "y":
            return (c * x + s * z, y, c * z - s * x)
        return (c * x - s * y, s * x + c * y, z)

    def point(self, point):
        return tuple(one + other for one, other in zip(self.way(point), self.slide))


STILL = Carry()


class World:
    """Things a, b, .. near nought, lamps l, m, n farther out, looks eye and top."""

    def __init__(self, source, many=3, cells=(3, 3), mirrors=0.7, halves=0.1, room=False):
        self.source, self.halves = source, halves
        self.things = [self.thing(name, source.random() < mirrors) for name in "abcdefgh"[:many]]
        if room:
            # Two walls that mirror, before and behind all else.
            for name, low, high in (("y", 5, 6), ("z", -12, -11)):
                row = f"box {name}p {low} -40 -40 {high} 40 40"
                self.things.append((name, [row], name + "p", (0, 0, 0), "white", True, (0, 0, 0)))
        self.lamps = [(name, self.around(5)) for name in "lmn"[:source.randint(1, 3)]]
        columns, rows = cells
        offset = [Fraction(source.randint(-3, 3), 7) for place in range(3)]
        eye = (-8 + offset[0], offset[1], offset[2])
        self.looks = [
            ("eye", eye, (-6, "-3/5", "-1/2"), ("1/7", "6/5", 0), (0, "-1/5", 1), columns, rows),
            ("top", (offset[2], offset[0], 9), ("-1/2", "-2/3", 7), (1, 0, 0), ("1/3", "5/4", 0), rows, columns),
        ]

    def around(self, reach):
        return [Fraction(self.source.randint(-2 * reach, 2 * reach), 2) for place in range(3)]

    def leaf(self, name):
        if self.source.random() < self.halves:
            way = self.source.choice(("1 0 0", "0 1 -1", "-1 2 2", "0 0 1"))
            return f"half {name} {way} {self.source.choice(('-3', '-5', '-1/2'))}"
        if self.source.random() < 0.7:
            low = self.around(1)
            high = [one + Fraction(self.source.randint(2, 6), 2) for one in low]
            return f"box {name} {words(low)} {words(high)}"
        return f"ball {name} {words(self.around(1))} {Fraction(self.source.randint(2, 5), 2)}"

    def thing(self, name, mirror):
        """A thing's name, the lines of its bodies, where it stands, its colour, whether it is a mirror, its move."""
        rows = [self.leaf(name + "p")]
        last = name + "p"
        for more in "qr"[:self.source.randint(0, 2)]:
            rows.append(self.leaf(name + more))
            rows.append(f"{self.source.choice(('join', 'cut', 'meet'))} {name}{more}{more} {last} {name}{more}")
            last = f"{name}{more}{more}"
        if self.source.random() < 0.4:
            rows.append(f"turn {name}t {last} {self.source.choice('xyz')} {words(self.source.choice(TURNS))}")
            last = name + "t"
        move = self.around(1) if self.source.random() < 0.4 else [0, 0, 0]
        return (name, rows, last, self.around(2), self.source.choice(COLOURS), mirror, move)

    def rows(self, carry=STILL, frozen=None):
        """The lines, all of it carried; with a frozen moment things don't move, but stand where they are at it."""
        told = []
        for name, rows, last, place, colour, mirror, move in self.things:
            off = [Fraction(0 if frozen is None else frozen) * one for one in move]
            told += rows
            told.append(f"slide {name}u {last} {words([one + other for one, other in zip(place, off)])}")
            told.append(f"turn {name}v {name}u {carry.axis} {words(carry.turn)}")
            told.append(f"slide {name} {name}v {words(carry.slide)}")
        for name, rows, last, place, colour, mirror, move in self.things:
            way = carry.way(move)
            is_moving = frozen is None and any(way)
            told.append(f"show {name} {colour}" + " mirror" * mirror + (f" move {words(way)}" if is_moving else ""))
        told += [f"lamp {name} {words(carry.point(point))}" for name, point in self.lamps]
        for name, place, corner, across, down, columns, rows in self.looks:
            points = [carry.point(place), carry.point(corner), carry.way(across), carry.way(down)]
            told.append(f"look {name} " + " ".join(words(point) for point in points) + f" {columns} {rows}")
        return told

    def text(self, carry=STILL, frozen=None):
        return "\n".join(self.rows(carry, frozen))


def random_tree(source, scene, moment):
    """A tree of several roots, of one to three kids each, with boxes of any size."""
    def greater(one):
        by = source.choice((0, 0, 1, Fraction(1, 3)))
        return tuple(tuple(fr(Fraction(*number) + side * by) for number in point) for side, point in ((-1, one[0]), (1, one[1])))

    def around(boxes):
        lows, highs = zip(*boxes)
        return tuple(tuple(fr(end(Fraction(*point[axis]) for point in points)) for axis in range(3)) for end, points in ((min, lows), (max, highs)))

    tree = []
    boxes = boxes_of(scene, moment)
    left, roots = [name for name in boxes if boxes[name] not in (None, ())], []
    source.shuffle(left)
    while left or (roots and source.random() < 0.7):
        if left and (not roots or source.random() < 0.5):
            name = left.pop()
            tree.append(("thing", name, greater(boxes[name])))
        else:
            kids = source.sample(roots, source.randint(1, min(3, len(roots))))
            tree.append(("node", tuple(kids), greater(around([tree[kid][2] for kid in kids]))))
            roots = [root for root in roots if root not in kids]
        roots.append(len(tree) - 1)
    return tuple(tree)


def boxes_of(scene, moment):
    names = [scene[0][thing[0]][0] for thing in scene[1]]
    return {name: box_of(*laid_out(scene, name, moment)) for name in names}


def roots_of(tree):
    kids = [kid for node in tree if node[0] == "node" for kid in node[1]]
    return [number for number in range(len(tree)) if number not in kids]


def edited(source, rows):
    """Lines with one change at random: mostly of a thing, at times of a lamp, of the order, or none at all."""
    rows = list(rows)
    shows = [at for at, row in enumerate(rows) if row.startswith("show")]
    slides = [at for at, row in enumerate(rows) if row.startswith("slide")]
    deed = source.choice(("slide", "slide", "slide", "colour", "mirror", "out", "in", "order", "lamp", "move", "none"))
    if deed == "slide":
        at = source.choice(slides)
        numbers = [Fraction(source.randint(-4, 4), 2) for axis in range(3)]
        rows[at] = " ".join(rows[at].split()[:3]) + " " + words(numbers)
    elif deed == "in":
        low = [Fraction(source.randint(-8, 8), 2) for axis in range(3)]
        body = f"box new {words(low)} {words([one + 1 for one in low])}"
        rows = [row for row in rows if " new " not in row]
        rows.insert(0, body)
        rows.insert(source.choice([at for at, row in enumerate(rows) if row.startswith(("show", "lamp"))]), "show new red")
    elif deed == "lamp":
        at = source.choice([at for at, row in enumerate(rows) if row.startswith("lamp")])
        rows[at] = " ".join(rows[at].split()[:2]) + " " + words(source.randint(-5, 5) for axis in range(3))
    elif shows and deed != "none":
        at = source.choice(shows)
        parts = rows[at].split()
        if deed == "colour":
            parts[2] = source.choice(COLOURS)
        elif deed == "mirror":
            parts[3:] = parts[4:] if "mirror" in parts[3:4] else ["mirror", *parts[3:]]
        elif deed == "move":
            parts = parts[:3] + [word for word in parts[3:4] if word == "mirror"] + ["move", *words(source.randint(-1, 1) for axis in range(3)).split()]
        rows[at] = " ".join(parts)
        if deed == "out":
            del rows[at]
        elif deed == "order":
            rows.insert(source.choice(shows), rows.pop(at))
    return rows
