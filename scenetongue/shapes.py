"""Shapes: what the numbers of leaves and the words join, cut and meet come to."""


def come_to_one(shape, leaves, make):
    """What a shape comes to: leaves has what each leaf is, make(word, one, other) tells what a word makes of two."""
    held = []
    for part in shape:
        if isinstance(part, str):
            second = held.pop()
            first = held.pop()
            held.append(make(part, first, second))
        else:
            held.append(leaves[part])
    return held[0]


def is_in(word, first, second):
    """Whether what a word makes of two is in, as the two are in or not."""
    if word == "join":
        return first or second
    if word == "cut":
        return first and not second
    return first and second
