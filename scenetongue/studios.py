"""Studios: a text and a moment that change, and pictures of them that are kept and repaired."""
from scenetongue.bounds import LOGGED, NOUGHT
from scenetongue.cells import cell, picture
from scenetongue.changes import repaired
from scenetongue.errors import BadScene, NoCell, NoLine, NoLook, NoMoment, Nothing
from scenetongue.fractions import is_whole
from scenetongue.logs import Logged
from scenetongue.reading import lead, read_scene
from scenetongue.words import is_number


def checked_moment(thing):
    """Anything as a moment; refused where it is no fraction of few figures."""
    if not is_number(thing):
        raise NoMoment("a moment is a fraction of few figures above and below")
    return thing


def with_line(text, number, words):
    """A text whose line of that number is these words, or goes where they are None."""
    rows = text.split("\n")
    if not is_whole(number) or not 0 <= number <= len(rows):
        raise NoLine("the text has no line of that number")
    if words is None:
        if number == len(rows):
            raise NoLine("no line stands behind them all")
        del rows[number]
    elif isinstance(words, str):
        rows[number:number + 1] = [words]
    else:
        raise BadScene(number, "long")
    return "\n".join(rows)


def look_named(scene, name):
    """The scene's look of that name, which may be anything."""
    for look in scene[3]:
        if look[0] == name:
            return look
    raise NoLook("the scene has no look of that name")


def is_number_below(thing, many):
    """Whether anything is a whole number from 0 to one less than so many."""
    return is_whole(thing) and 0 <= thing < many


class Studio:
    """A text, its scene, a moment, and what is kept of pictures."""

    def __init__(self, text="", *, moment=NOUGHT):
        # What stands is the text, its scene, and the moment.
        self.stands = (text, read_scene(text), checked_moment(moment))
        self.past = []
        # Of each look the last picture told, and the state of that time.
        self.pictures = {}
        self.anew = 0
        self.rows = []

    def deed(self, word):
        """A deed that is logged."""
        # No more than the last rows are told, so no more are kept.
        del self.rows[:-LOGGED]
        return Logged(self.rows, word)

    def take(self, text, scene, moment):
        """Lets another text and moment stand."""
        self.past.append(self.stands)
        self.stands = (text, scene, moment)

    def write(self, text):
        """Lets another text stand."""
        with self.deed("write"):
            self.take(text, read_scene(text), self.moment())

    def line(self, number, words):
        """Lets the line of that number be these words, or go where they are None."""
        with self.deed("line"):
            text = with_line(self.text(), number, words)
            self.take(text, read_scene(text), self.moment())

    def go(self, moment):
        """Goes to another moment."""
        with self.deed("go"):
            self.take(self.text(), self.scene(), checked_moment(moment))

    def look(self, name):
        """The picture of the look of that name, repaired where one of a look just like it has been told."""
        with self.deed("look"):
            state = (self.scene(), self.moment())
            found = look_named(self.scene(), name)
            if found in self.pictures:
                before, old = self.pictures[found]
                told, anew = repaired(before, state, found, old)
            else:
                told, anew = picture(self.scene(), self.moment(), found), found[5] * found[6]
            self.pictures[found] = (state, told)
            self.anew = anew
            return told

    def asked(self):
        """How many cells the last picture told asked anew."""
        return self.anew

    def back(self):
        """Takes back the last write, line or go that stands."""
        with self.deed("back"):
            if not self.past:
                raise Nothing("no deed is left to take back")
            self.stands = self.past.pop()

    def text(self):
        """The text that stands."""
        return self.stands[0]

    def scene(self):
        """Its scene."""
        return self.stands[1]

    def moment(self):
        """The moment that stands."""
        return self.stands[2]

    def log(self):
        """The last rows of what was asked and how it ended."""
        return self.rows[-LOGGED:]

    def lead(self, name, column, row):
        """The lines that show a cell of the look of that name."""
        found = look_named(self.scene(), name)
        if not is_number_below(column, found[5]) or not is_number_below(row, found[6]):
            raise NoCell("the look has no cell there")
        return lead(self.text(), cell(self.scene(), self.moment(), found, column, row))

    def __len__(self):
        return len(self.past)

    def __eq__(self, other):
        return isinstance(other, Studio) and self.text() == other.text() and self.moment() == other.moment()

    def __str__(self):
        return str(self.text())
