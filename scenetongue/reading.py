"""Texts: their faults, the scenes that they tell, and which lines show a cell."""
from scenetongue.bounds import BODIES, LAMPS, LEAVES, LINES, LOOKS, SIGNS, THINGS
from scenetongue.errors import BadScene
from scenetongue.forms import SPOKEN_OF, form_is_sound, form_of, leaves_of, look_is_sound
from scenetongue.lines import parsed
from scenetongue.points import NOWHERE


def is_long(at, row):
    """Whether a line has too many signs, one that no line has, or stands too far down."""
    if at >= LINES or len(row) > SIGNS:
        return True
    return any([not " " <= letter <= "~" for letter in row])


def words_of(row):
    """The words of a line, none where it counts for nothing."""
    words = [word for word in row.split(" ") if word]
    if words and words[0].startswith("#"):
        return []
    return words


def names_of(rows):
    """The names at the head of lamps or looks."""
    return [row[0] for row in rows]


class Reader:
    """What the lines read so far make, and which of them have faults."""

    def __init__(self):
        self.bodies = []
        self.things = []
        self.lamps = []
        self.looks = []
        self.wrong = []
        self.numbers = {}
        self.leaves = []
        self.body_lines = {}
        self.thing_lines = {}

    def read(self, at, row):
        """Reads the line of that number."""
        why = self.make(at, row)
        if why is not None:
            self.wrong.append((at, why))

    def make(self, at, row):
        """Makes what a line tells, or tells what is wrong with it."""
        if is_long(at, row):
            return "long"
        words = words_of(row)
        if not words:
            return None
        why, worths = parsed(words)
        if why is not None:
            return why
        if words[0] == "show":
            return self.show(at, worths)
        if words[0] == "lamp":
            return self.place_lamp(worths)
        if words[0] == "look":
            return self.place_look(worths)
        return self.make_body(at, words[0], worths)

    def make_body(self, at, word, worths):
        """Makes a body, or tells why not."""
        name = worths[0]
        spoken_of = worths[1:1 + SPOKEN_OF[word]]
        if any([other not in self.numbers for other in spoken_of]):
            return "none"
        if name in self.numbers:
            return "twice"
        parts = [self.numbers[other] for other in spoken_of]
        form = form_of(word, worths, parts)
        if not form_is_sound(form):
            return "kind"
        if len(self.bodies) >= BODIES:
            return "many"
        self.numbers[name] = len(self.bodies)
        self.bodies.append((name, form))
        self.leaves.append(leaves_of(word, [self.leaves[part] for part in parts]))
        self.body_lines[name] = at
        return None

    def show(self, at, worths):
        """Shows a body as a thing, or tells why not."""
        name, colour = worths[0], worths[1]
        if name not in self.numbers:
            return "none"
        if name in self.thing_lines:
            return "twice"
        number = self.numbers[name]
        if len(self.things) >= THINGS or self.leaves[number] > LEAVES:
            return "many"
        # Names at the second place can be these words, too, so only what stands behind is asked.
        behind = worths[2:]
        move = tuple(behind[-3:]) if "move" in behind else NOWHERE
        self.things.append((number, colour, "mirror" in behind, move))
        self.thing_lines[name] = at
        return None

    def place_lamp(self, worths):
        """Places a lamp, or tells why not."""
        name = worths[0]
        if name in names_of(self.lamps):
            return "twice"
        if len(self.lamps) >= LAMPS:
            return "many"
        self.lamps.append((name, tuple(worths[1:4])))
        return None

    def place_look(self, worths):
        """Places a look, or tells why not."""
        name, columns, rows = worths[0], worths[13], worths[14]
        points = [tuple(worths[start:start + 3]) for start in (1, 4, 7, 10)]
        if name in names_of(self.looks):
            return "twice"
        if not look_is_sound(*points):
            return "kind"
        if len(self.looks) >= LOOKS:
            return "many"
        self.looks.append((name, *points, columns, rows))
        return None


def reader_of(text):
    """A reader that has read a whole text."""
    reader = Reader()
    for at, row in enumerate(text.split("\n")):
        reader.read(at, row)
    return reader


def faults(text):
    """What is wrong with anything as a text: (line, why) of each line with a fault, the first thing wrong with it."""
    if not isinstance(text, str):
        return ((0, "long"),)
    return tuple(reader_of(text).wrong)


def read_scene(text):
    """The scene that a text tells; refused with the first fault where there is one."""
    if not isinstance(text, str):
        raise BadScene(0, "long")
    reader = reader_of(text)
    if reader.wrong:
        at, why = reader.wrong[0]
        raise BadScene(at, why)
    return (tuple(reader.bodies), tuple(reader.things), tuple(reader.lamps), tuple(reader.looks))


def lead(text, cell):
    """Of each hit of a cell the lines that show its thing and its leaf's body, None for no leaf."""
    reader = reader_of(text)
    return tuple([(reader.thing_lines[hit[0]], reader.body_lines.get(hit[2])) for hit in cell])
