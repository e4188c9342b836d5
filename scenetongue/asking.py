"""Asking by boxes: papers that tell why things needn't be asked, and those who ask."""
from scenetongue.bounds import NOUGHT
from scenetongue.cells import cells_by, whole_part
from scenetongue.errors import NoAsker
from scenetongue.fractions import minus, sign
from scenetongue.hits import first_of, hit_of
from scenetongue.laying import box_of, laid_out, name_of
from scenetongue.papers import (
    comes_late, is_just, is_missed, is_missed_or_late, is_paper, names_beneath, rows_of,
)
from scenetongue.stages import Stage
from scenetongue.trees import box_stretch, kids_in, names_in, tree_of


def names_shown(scene):
    """The names of a scene's things, in order."""
    return [name_of(scene, thing) for thing in scene[1]]


def box_at(scene, name, moment):
    """The box of a thing at a moment, None without end and () for nothing."""
    leaves, shape = laid_out(scene, name, moment)
    return box_of(leaves, shape)


def are_covered(scene, moment, covered):
    """Whether each thing of a scene but those of nothing is among the names covered."""
    left = [name for name in names_shown(scene) if name not in covered]
    return all([box_at(scene, name, moment) == () for name in left])


def right_asking(scene, moment, ray, tree, paper):
    """Whether anything is a right paper of asking for a ray and a right tree."""
    names = names_shown(scene)
    if not is_paper(paper, names, tree):
        return False
    hit, rows = paper
    asked, missed, late = rows_of(rows, "asked"), rows_of(rows, "miss"), rows_of(rows, "late")
    if not are_covered(scene, moment, asked + names_beneath(tree, missed + late)):
        return False
    if not is_just(hit, first_of([hit_of(scene, name, moment, ray) for name in names if name in asked])):
        return False
    if not all([is_missed(tree[number][2], ray) for number in missed]):
        return False
    return all([is_missed_or_late(tree[number][2], ray, hit) for number in late])


class Inquiry:
    """A ray on its way through a tree: the hits of the things asked, the rows written, and the nodes that wait."""

    def __init__(self, scene, moment, ray, tree):
        self.state = (scene, moment)
        self.ray = ray
        self.tree = tree
        self.hits = {}
        self.rows = []
        self.waiting = []

    def hit_so_far(self):
        """The first hit of the things asked."""
        return first_of([self.hits[name] for name in names_shown(self.state[0]) if name in self.hits])

    def ask_thing(self, name):
        """Asks a thing."""
        scene, moment = self.state
        self.hits[name] = hit_of(scene, name, moment, self.ray)
        self.rows.append(("asked", name))

    def come_to(self, number):
        """Writes that a node is missed, or puts it among those that wait, with the moment at which it begins."""
        stretch = box_stretch(self.tree[number][2], self.ray)
        if stretch is None:
            self.rows.append(("miss", number))
        else:
            self.waiting.append((stretch[0], number))

    def take_nearest(self):
        """Takes out the node that begins first of those that wait: (begin, number)."""
        nearest = 0
        for at, row in enumerate(self.waiting):
            if sign(minus(row[0], self.waiting[nearest][0])) < 0:
                nearest = at
        return self.waiting.pop(nearest)

    def walk(self):
        """Goes from node to node, the nearest first, until those that are left come late."""
        while self.waiting:
            begin, number = self.take_nearest()
            hit = self.hit_so_far()
            word, what = self.tree[number][:2]
            if hit is not None and comes_late(begin, hit[3]):
                self.rows.append(("late", number))
            elif word == "thing":
                self.ask_thing(what)
            else:
                for kid in what:
                    self.come_to(kid)


def ask(scene, moment, ray, tree):
    """A right paper of asking: no thing is asked beneath a node that the ray misses."""
    inquiry = Inquiry(scene, moment, ray, tree)
    in_tree = names_in(tree)
    for name in names_shown(scene):
        if name not in in_tree and box_at(scene, name, moment) is None:
            inquiry.ask_thing(name)
    kids = kids_in(tree)
    for number in range(len(tree)):
        if number not in kids:
            inquiry.come_to(number)
    inquiry.walk()
    return (inquiry.hit_so_far(), tuple(inquiry.rows))


class Asker:
    """Who asks the things of a scene at a moment; this one doesn't know how."""

    def __init__(self, scene, *, moment=NOUGHT):
        self.state = (scene, moment)
        self.stage = Stage(scene, moment)
        self.many = 0

    def first(self, ray):
        """The first hit of a ray: refused."""
        raise NoAsker("this asker doesn't know how to ask")

    def asks(self):
        """How many things were asked so far."""
        return self.many


class Plainly(Asker):
    """Who asks all things."""

    def first(self, ray):
        """The first hit of a ray."""
        self.many += len(self.stage.things)
        return self.stage.first(ray)

    def asks(self):
        """How many things were asked so far."""
        return self.many


class ByBoxes(Asker):
    """Who asks by a tree of boxes."""

    def __init__(self, scene, *, moment=NOUGHT):
        super().__init__(scene, moment=moment)
        self.tree = tree_of(scene, moment)

    def first(self, ray):
        """The first hit of a ray."""
        scene, moment = self.state
        hit, rows = ask(scene, moment, ray, self.tree)
        self.many += len(set(rows_of(rows, "asked")))
        return hit

    def asks(self):
        """How many things were asked so far."""
        return self.many


def picture_by(asker, look):
    """The picture of the asker's scene and moment, all first hits asked of it."""
    return cells_by(asker.stage, asker, look, whole_part(look))
