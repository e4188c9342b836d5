"""Cells by the plain reading, written once more: what mirrors do is reckoned here, hits and lamps are asked."""
from fractions import Fraction

from helping import fr
from scenetongue.hits import first_hit
from scenetongue.lamps import reached
from scenetongue.laying import laid_out
from scenetongue.rays import stretches


def fractions_of(point):
    return [Fraction(*number) for number in point]


def point_of(numbers):
    return tuple(fr(number) for number in numbers)


def dot(one, other):
    return sum(mine * yours for mine, yours in zip(one, other))


def leaf_at(scene, moment, ray, hit):
    """The leaf, and its face, of the stretch that begins where the hit is."""
    leaves, shape = laid_out(scene, hit[0], moment)
    ((leaf, face),) = [at for begin, end, at in stretches(leaves, shape, ray) if begin == hit[3]]
    return leaves[leaf], face


def across_at(leaf, face):
    turn = [fractions_of(row) for row in leaf[2]]
    own = fractions_of(leaf[1][1]) if leaf[1][0] == "half" else [int(axis == face // 2) for axis in range(3)]
    return [dot(row, own) for row in turn]


def plain_mirrored(scene, moment, ray, hit):
    mirrors = {scene[0][number][0]: mirror for number, colour, mirror, move in scene[1]}
    if hit is None or hit[1] is None or not mirrors[hit[0]]:
        return None
    leaf, face = leaf_at(scene, moment, ray, hit)
    if leaf[1][0] == "ball":
        return None
    place, way = fractions_of(ray[0]), fractions_of(ray[1])
    across, t = across_at(leaf, face), Fraction(*hit[3][0])
    by = 2 * dot(way, across) / dot(across, across)
    return (
        point_of(start + t * step for start, step in zip(place, way)),
        point_of(step - by * side for step, side in zip(way, across)),
    )


def plain_trace(scene, moment, ray):
    told = []
    while ray is not None and len(told) < 4:
        hit = first_hit(scene, moment, ray)
        told.append((ray, hit))
        ray = plain_mirrored(scene, moment, ray, hit)
    return tuple(told)


def plain_ray(look, column, row):
    name, place, corner, across, down, columns, rows = look
    over, below = Fraction(2 * column + 1, 2 * columns), Fraction(2 * row + 1, 2 * rows)
    parts = zip(*[fractions_of(point) for point in (place, corner, across, down)])
    return (place, point_of(c + over * a + below * d - p for p, c, a, d in parts))


def plain_cell(scene, moment, look, column, row):
    colours = {scene[0][number][0]: colour for number, colour, mirror, move in scene[1]}
    return tuple(
        (hit[0], colours[hit[0]], hit[1], hit[2], reached(scene, moment, ray, hit[3]))
        for ray, hit in plain_trace(scene, moment, plain_ray(look, column, row)) if hit is not None
    )


def plain_picture(scene, moment, look):
    return tuple(
        tuple(plain_cell(scene, moment, look, column, row) for column in range(look[5])) for row in range(look[6])
    )
