"""The forms of bodies: how a line makes one, whether its numbers do, and how many leaves it has."""
from scenetongue.bounds import NOUGHT
from scenetongue.fractions import dot, sign
from scenetongue.points import NOWHERE, crossed, way_between

# Of each first word that makes a body, how many words behind its name are names of bodies.
SPOKEN_OF = {"box": 0, "ball": 0, "half": 0, "join": 2, "cut": 2, "meet": 2, "slide": 1, "turn": 1}


def form_of(word, worths, parts):
    """The form of a body: worths is what its line tells, parts the numbers of the bodies it speaks of."""
    if word == "box":
        return (word, tuple(worths[1:4]), tuple(worths[4:7]))
    if word in ("ball", "half"):
        return (word, tuple(worths[1:4]), worths[4])
    if word == "slide":
        return (word, parts[0], tuple(worths[2:5]))
    if word == "turn":
        return (word, parts[0], worths[2], worths[3], worths[4])
    return (word, parts[0], parts[1])


def form_is_sound(form):
    """Whether a form's numbers make one."""
    word = form[0]
    if word == "box":
        return all([sign(edge) > 0 for edge in way_between(form[1], form[2])])
    if word == "ball":
        return sign(form[2]) > 0
    if word == "half":
        return form[1] != NOWHERE
    if word == "turn":
        point = (form[3], form[4], NOUGHT)
        return dot(point, point) == (1, 1)
    return True


def look_is_sound(place, corner, across, down):
    """Whether the ways across and down and the one to the corner don't lie in one plane."""
    return sign(dot(way_between(place, corner), crossed(across, down))) != 0


def leaves_of(word, counts):
    """How many leaves a body has, of how many leaves each of those has that it speaks of."""
    return sum(counts) if SPOKEN_OF[word] else 1
