"""Scenes: what is one, and a text that has it."""
from scenetongue.fractions import is_whole
from scenetongue.points import NOWHERE
from scenetongue.reading import faults, read_scene
from scenetongue.words import is_axis, is_count, is_name, is_number, written

# The parts of each row of a scene, a letter for each: n a name, b the number of a body, a an axis, q a fraction,
# p three of them, t a truth, k a count. FORM_PARTS has those behind a form's word.
FORM_PARTS = {
    "box": "pp",
    "ball": "pq",
    "half": "pq",
    "join": "bb",
    "cut": "bb",
    "meet": "bb",
    "slide": "bp",
    "turn": "baqq",
}
THING_PARTS = "bntp"
LAMP_PARTS = "np"
LOOK_PARTS = "nppppkk"


def is_point(thing):
    """Whether anything is a tuple of three fractions that can be written."""
    return isinstance(thing, tuple) and len(thing) == 3 and all([is_number(part) for part in thing])


def is_part(letter, thing, many):
    """Whether anything can be the part that a letter stands for, where there are so many bodies."""
    if letter == "n":
        return is_name(thing)
    if letter == "b":
        return is_whole(thing) and 0 <= thing < many
    if letter == "a":
        return is_axis(thing)
    if letter == "q":
        return is_number(thing)
    if letter == "p":
        return is_point(thing)
    if letter == "t":
        return isinstance(thing, bool)
    return is_count(thing)


def has_parts(letters, thing, many):
    """Whether anything is a tuple of the parts that the letters stand for."""
    if not isinstance(thing, tuple) or len(thing) != len(letters):
        return False
    return all([is_part(letter, part, many) for letter, part in zip(letters, thing)])


def has_body_parts(thing, many):
    """Whether anything is a tuple of a name and a form, by its kinds alone."""
    if not isinstance(thing, tuple) or len(thing) != 2:
        return False
    name, form = thing
    if not is_name(name) or not isinstance(form, tuple) or not form:
        return False
    word = form[0]
    return isinstance(word, str) and word in FORM_PARTS and has_parts(FORM_PARTS[word], form[1:], many)


def has_scene_parts(thing):
    """Whether anything is made of tuples as a scene is, by the kinds of its parts alone."""
    if not isinstance(thing, tuple) or len(thing) != 4 or not all([isinstance(part, tuple) for part in thing]):
        return False
    bodies, things, lamps, looks = thing
    many = len(bodies)
    return (
        all([has_body_parts(row, many) for row in bodies])
        and all([has_parts(THING_PARTS, row, many) for row in things])
        and all([has_parts(LAMP_PARTS, row, many) for row in lamps])
        and all([has_parts(LOOK_PARTS, row, many) for row in looks])
    )


def is_scene(thing):
    """Whether some text has anything as its scene."""
    if not has_scene_parts(thing):
        return False
    text = scene_text(thing)
    return not faults(text) and read_scene(text) == thing


def point_words(point):
    """The words of a point or a way."""
    return [written(number) for number in point]


def part_words(letter, part, bodies):
    """The words that write the part that a letter stands for."""
    if letter == "b":
        return [bodies[part][0]]
    if letter == "q":
        return [written(part)]
    if letter == "p":
        return point_words(part)
    return [f"{part}"]


def parts_words(letters, parts, bodies):
    """The words that write parts in a row."""
    words = []
    for letter, part in zip(letters, parts):
        words.extend(part_words(letter, part, bodies))
    return words


def body_words(body, bodies):
    """The words of a body's line."""
    name, form = body
    return [form[0], name] + parts_words(FORM_PARTS[form[0]], form[1:], bodies)


def thing_words(thing, bodies):
    """The words of the line that shows a thing."""
    number, colour, mirror, move = thing
    words = ["show", bodies[number][0], colour]
    if mirror:
        words.append("mirror")
    if move != NOWHERE:
        words.extend(["move"] + point_words(move))
    return words


def scene_text(scene):
    """A text that has the scene."""
    bodies, things, lamps, looks = scene
    rows = [body_words(body, bodies) for body in bodies]
    rows.extend([thing_words(thing, bodies) for thing in things])
    rows.extend([["lamp"] + parts_words(LAMP_PARTS, lamp, bodies) for lamp in lamps])
    rows.extend([["look"] + parts_words(LOOK_PARTS, look, bodies) for look in looks])
    return "\n".join([" ".join(words) for words in rows])
