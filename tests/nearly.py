"""The plain reading once more, to many figures instead of exactly, for tests to hold the program against.

Moments that differ by less than TINY count as one; the tests' numbers are so small that others lie farther apart."""
from decimal import Decimal, getcontext

getcontext().prec = 150
TINY = Decimal(10) ** -60


def near(number):
    above, below = number
    return Decimal(above) / Decimal(below)


def near_point(point):
    return [near(number) for number in point]


def near_root(number):
    plain, part, under = number
    return near(plain) + near(part) * near(under).sqrt()


def dot(one, other):
    return sum(mine * yours for mine, yours in zip(one, other))


def place_at(ray, t):
    return [start + t * step for start, step in zip(near_point(ray[0]), near_point(ray[1]))]


def own_ray(leaf, place, way):
    """A ray as it is seen from a leaf that is neither turned nor slid."""
    turn = [near_point(row) for row in leaf[2]]
    gap = [one - other for one, other in zip(place, near_point(leaf[3]))]
    columns = list(zip(*turn))
    return [dot(column, gap) for column in columns], [dot(column, way) for column in columns]


def slab(start, slope, low, high):
    """(begin, end) between low and high, None for endless ones; None where there is no such moment."""
    if abs(slope) < TINY:
        inside = (low is None or start - low > TINY) and (high is None or high - start > TINY)
        return (None, None) if inside else None
    ends = [None if side is None else (side - start) / slope for side in (low, high)]
    return tuple(ends if slope > 0 else ends[::-1])


def in_common(slabs):
    if None in slabs:
        return None
    begins = [begin for begin, end in slabs if begin is not None]
    ends = [end for begin, end in slabs if end is not None]
    begin, end = max(begins, default=None), min(ends, default=None)
    if begin is not None and end is not None and end - begin < TINY:
        return None
    return (begin, end)


def span(leaf, place, way):
    """The moments between which a leaf is in along a ray, as slab tells them."""
    form = leaf[1]
    start, step = own_ray(leaf, place, way)
    if form[0] == "box":
        sides = zip(start, step, near_point(form[1]), near_point(form[2]))
        return in_common([slab(*side) for side in sides])
    if form[0] == "half":
        across = near_point(form[1])
        return slab(dot(across, start), dot(across, step), None, near(form[2]))
    gap = [one - other for one, other in zip(start, near_point(form[1]))]
    a, b, c = dot(step, step), dot(step, gap), dot(gap, gap) - near(form[2]) ** 2
    d = b * b - a * c
    if d < TINY:
        return None
    return ((-b - d.sqrt()) / a, (-b + d.sqrt()) / a)


def is_in(shape, truths):
    held = []
    for part in shape:
        if isinstance(part, str):
            second, first = held.pop(), held.pop()
            held.append({"join": first or second, "cut": first and not second, "meet": first and second}[part])
        else:
            held.append(truths[part])
    (told,) = held
    return told


def rows(spans, shape):
    """The stretches (begin, end) of what a shape makes of leaves with these spans."""
    moments = []
    for moment in sorted(one for both in spans if both for one in both if one is not None):
        if not moments or moment - moments[-1] > TINY:
            moments.append(moment)
    borders = [None, *moments, None]
    told = []
    for begin, end in zip(borders, borders[1:]):
        if begin is None or end is None:
            middle = end - 1 if end is not None else begin + 1 if begin is not None else Decimal(0)
        else:
            middle = (begin + end) / 2
        truths = [
            both is not None and (both[0] is None or both[0] < middle) and (both[1] is None or middle < both[1])
            for both in spans
        ]
        if not is_in(shape, truths):
            continue
        if told and begin is not None and told[-1][1] == begin:
            told[-1] = (told[-1][0], end)
        else:
            told.append((begin, end))
    return told


def is_hidden(things, place, goal):
    """Whether a thing laid out, (leaves, shape), has a stretch with moments between place and goal."""
    way = [one - other for one, other in zip(goal, place)]
    for leaves, shape in things:
        for begin, end in rows([span(leaf, place, way) for leaf in leaves], shape):
            if (begin is None or 1 - begin > TINY) and (end is None or end > TINY):
                return True
    return False


def is_same_place(one, other):
    return all(abs(mine - yours) < TINY for mine, yours in zip(one, other))
