"""Stretches of moments, whatever the moments are: order(one, other) tells -1, 0 or 1 of two of them.

The stretch of a leaf is None where it is never in, or (begin, end, face, face), None without end."""
from scenetongue.shapes import come_to_one, is_in

ALWAYS = (None, None, None, None)


def directed(towards, to_low, to_high, slab):
    """The stretch between the sides of a slab, come to at those moments, as one goes towards high (1) or low (-1)."""
    if towards > 0:
        return (to_low, to_high, slab[3], slab[4])
    return (to_high, to_low, slab[4], slab[3])


def met(spans, order):
    """What several stretches have in common; of faces at one moment the first one's."""
    begin = end = first = last = None
    for span in spans:
        if span is None:
            return None
        if span[0] is not None and (begin is None or order(span[0], begin) > 0):
            begin, first = span[0], span[2]
        if span[1] is not None and (end is None or order(span[1], end) < 0):
            end, last = span[1], span[3]
    if begin is not None and end is not None and order(begin, end) >= 0:
        return None
    return (begin, end, first, last)


def put(marks, moment, change, order):
    """Puts what changes at a moment among the marks, each a moment and a list of changes, rising."""
    low, high = 0, len(marks)
    while low < high:
        middle = (low + high) // 2
        side = order(moment, marks[middle][0])
        if side == 0:
            marks[middle][1].append(change)
            return
        if side < 0:
            high = middle
        else:
            low = middle + 1
    marks.insert(low, (moment, [change]))


def marks_of(spans, order):
    """The moments at which leaves begin (edge 0) or end (edge 1), rising: a list of (moment, changes), changes a list
    of (leaf, edge). A mark's moment is written as the first leaf tells it that has one there, its first change."""
    marks = []
    for leaf, span in enumerate(spans):
        if span is None:
            continue
        for edge in (0, 1):
            if span[edge] is not None:
                put(marks, span[edge], (leaf, edge), order)
    return marks


def rows_in(spans, shape, order):
    """The stretches of what a shape makes of leaves, rising: a list of (begin, end), marks, None without end."""
    inside = [span is not None and span[0] is None for span in spans]
    now = come_to_one(shape, inside, is_in)
    begin = None
    rows = []
    for mark in marks_of(spans, order):
        for leaf, edge in mark[1]:
            inside[leaf] = edge == 0
        then = come_to_one(shape, inside, is_in)
        if then and not now:
            begin = mark
        if now and not then:
            rows.append((begin, mark))
        now = then
    if now:
        rows.append((begin, None))
    return rows
