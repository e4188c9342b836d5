"""A scene at a moment, its things laid out once for many rays, and what a mirror makes of a ray."""
from scenetongue.fractions import dot, over, times
from scenetongue.hits import first_along, stretch_ahead
from scenetongue.lamps import lamps_along
from scenetongue.laying import laid_things
from scenetongue.points import columns_of, stretched, together, turned, way_between


def across_of(leaf, face):
    """The way across that side of a box or a half space, as it stands."""
    form, turn = leaf[1], leaf[2]
    if form[0] == "half":
        return turned(turn, form[1])
    return columns_of(turn)[face // 2]


def thrown_back(ray, t, across):
    """The ray that begins at a ray's place at a moment, its way mirrored by a side with that way across."""
    place, way = ray
    twice = times((2, 1), over(dot(way, across), dot(across, across)))
    return (together(place, stretched(way, t)), way_between(stretched(across, twice), way))


class Stage:
    """What a scene shows at a moment."""

    def __init__(self, scene, moment):
        self.things = laid_things(scene, moment)
        self.lamps = scene[2]
        self.colours = {}
        self.mirrors = {}
        for thing, laid in zip(scene[1], self.things):
            self.colours[laid[0]] = thing[1]
            if thing[2]:
                self.mirrors[laid[0]] = laid

    def first(self, ray):
        """The first hit of all things, all of them asked."""
        return first_along(self.things, ray)

    def next_ray(self, ray, hit):
        """The ray that a mirror makes of a ray at its first hit; None where nothing mirrors there."""
        if hit is None or hit[1] is None or hit[0] not in self.mirrors:
            return None
        laid = self.mirrors[hit[0]]
        # A hit has just the leaf's name, which two leaves may have: the stretch tells its number.
        leaf = laid[1][stretch_ahead(laid, ray)[2][0]]
        if leaf[1][0] == "ball":
            return None
        return thrown_back(ray, hit[3][0], across_of(leaf, hit[2]))

    def seen_at(self, ray, hit):
        """What a cell tells of a hit: its thing, the colour, the leaf, the face, and the lamps that reach it."""
        name, leaf, face, t = hit
        return (name, self.colours[name], leaf, face, lamps_along(self.things, self.lamps, ray, t))
