"""Root numbers: tuples (p, q, d) of fractions, p and q times the root of d, d not below nought."""
from scenetongue.fractions import is_fraction
from scenetongue.towers import Rooted, Whole


def compare(one, other):
    """-1, 0 or 1, as the one root number is less than, equal to or greater than the other."""
    plain, part, under = one
    other_plain, other_part, other_under = other
    gap = plain[0] * other_plain[1] - other_plain[0] * plain[1]
    if part[0] * under[0] == 0 and other_part[0] * other_under[0] == 0:
        return Whole().sign(gap)
    # All is taken times the belows, which are above nought, so that whole numbers are left:
    # the root of u by v is the root of u v, by v.
    shared = plain[1] * other_plain[1]
    mine = part[1] * under[1]
    yours = other_part[1] * other_under[1]
    first = Rooted(Whole(), under[0] * under[1])
    second = Rooted(first, first.lifted(other_under[0] * other_under[1]))
    sum_of_two = (gap * mine * yours, part[0] * shared * yours)
    return second.sign((sum_of_two, first.lifted(-other_part[0] * shared * mine)))


def is_root_number(thing):
    """Whether anything is a root number."""
    if not isinstance(thing, tuple) or len(thing) != 3:
        return False
    return all([is_fraction(part) for part in thing]) and thing[2][0] >= 0
