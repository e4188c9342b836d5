"""Studios: texts and moments that change, pictures kept and repaired, deeds taken back, the log."""
import copy
import inspect
import random
import unittest
from unittest import mock

from helping import Exactly, anything, lines, pt, scene_of, texts
from making import World, edited
from plainly import plain_picture
from scenetongue import studios
from scenetongue.bounds import LOGGED
from scenetongue.cells import cell, picture
from scenetongue.changes import kept
from scenetongue.errors import BadScene, NoCell, NoLine, NoLook, NoMoment, Nothing, SceneError
from scenetongue.reading import faults, lead, read_scene
from scenetongue.studios import Studio

NOW = (0, 1)
LOOK = "look eye 0 0 0 5 -3 -3 0 6 0 0 0 6 6 6"
ROWS = ("box a 5 0 0 6 1 1", "show a red move 0 1 0", "box b 5 -3 -3 6 -2 -2", "show b red", LOOK)
TEXT = lines(*ROWS)
NO_MOMENTS = [
    None, (2, 4), (0, 2), (1, 0), (1, -1), (-1, -2), (1000000, 1), (-1000000, 1), (1, 1000000), (1234567, 1000001), [1, 2], (1,), (1, 2, 3), (), "1/2", "", 1,
    0, True, False, (True, 2), (1, True), (0, True), (False, 1), ("1", "2"), (None, 1), (1, None), ((1, 2),), {}, {1: 2}, (10 ** 59, 1), (1, 10 ** 59), ([], 1),
]
MOMENTS = [(0, 1), (1, 2), (-1, 2), (999999, 1), (-999999, 1), (1, 999999), (-999999, 999998), (123456, 654321 // 3)]


class StudioCase(Exactly):
    def refuses(self, kind, function, *handed, fields=None):
        """The error is just of that class, not of one under it."""
        with self.assertRaises(SceneError) as caught:
            function(*handed)
        self.assertIs(type(caught.exception), kind, handed)
        if fields is not None:
            self.tells((caught.exception.at, caught.exception.why), fields)

    def stands(self, studio, text, moment=NOW, deeds=None):
        self.tells((studio.text(), studio.moment()), (text, moment))
        self.tells(studio.scene(), read_scene(text))
        self.tells(str(studio), text)
        if deeds is not None:
            self.tells(len(studio), deeds)
            self.tells(bool(studio), deeds > 0)

    def changes_nothing_of(self, studio, kind, function, *handed, fields=None):
        """What is refused leaves all as it is, but for the log."""
        before = (studio.text(), studio.scene(), studio.moment(), len(studio), studio.asked(), list(studio.log()))
        given = copy.deepcopy(handed)
        self.refuses(kind, function, *handed, fields=fields)
        self.tells(handed, given)
        after = (studio.text(), studio.scene(), studio.moment(), len(studio), studio.asked(), list(studio.log()))
        self.tells(after[:5], before[:5])
        word = function.__name__
        self.tells(after[5], (before[5] + [("begun", word), ("ended", word, False)])[-LOGGED:])


class Begin(StudioCase):
    def test_text_and_moment_left_out(self):
        self.stands(Studio(), "", NOW, 0)
        self.stands(Studio(TEXT), TEXT, NOW, 0)
        self.stands(Studio(moment=(1, 2)), "", (1, 2), 0)
        self.stands(Studio(TEXT, moment=(-7, 3)), TEXT, (-7, 3), 0)
        self.stands(Studio(moment=(1, 2), text="# a"), "# a", (1, 2), 0)
        for studio in (Studio(), Studio(TEXT, moment=(1, 2))):
            self.tells((studio.asked(), studio.log()), (0, []))

    def test_bad_scenes(self):
        for thing in anything() + [None]:
            self.refuses(BadScene, Studio, thing, fields=(0, "long"))
        for text in texts():
            told = faults(text)
            if told:
                self.refuses(BadScene, Studio, text, fields=told[0])
            else:
                self.stands(Studio(text), text)
        self.refuses(BadScene, Studio, lines(*ROWS, "show a blue"), fields=(5, "twice"))

    def test_no_moments(self):
        for thing in NO_MOMENTS:
            with self.assertRaises(SceneError) as caught:
                Studio(TEXT, moment=thing)
            self.assertIs(type(caught.exception), NoMoment, thing)
        for moment in MOMENTS:
            self.stands(Studio(TEXT, moment=moment), TEXT, moment)

    def test_a_bad_scene_ahead_of_no_moment(self):
        for thing in (None, 7, "box", "show a red"):
            with self.assertRaises(SceneError) as caught:
                Studio(thing, moment=None)
            self.assertIs(type(caught.exception), BadScene)


class Write(StudioCase):
    def test_texts(self):
        studio = Studio()
        for deeds, text in enumerate((TEXT, "", "# a", TEXT, TEXT), start=1):
            self.tells(studio.write(text), None)
            self.stands(studio, text, NOW, deeds)

    def test_the_moment_stays(self):
        studio = Studio(TEXT, moment=(1, 2))
        studio.write("")
        self.stands(studio, "", (1, 2), 1)

    def test_refused(self):
        studio = Studio(TEXT)
        studio.look("eye")
        for thing in anything() + [None]:
            self.changes_nothing_of(studio, BadScene, studio.write, thing, fields=(0, "long"))
        for text in ("box", lines(TEXT, TEXT), "\n" * 80, "show a red", "\t"):
            self.changes_nothing_of(studio, BadScene, studio.write, text, fields=faults(text)[0])


class Line(StudioCase):
    def test_another_line(self):
        studio = Studio(TEXT)
        self.tells(studio.line(1, "show a blue"), None)
        self.stands(studio, lines(ROWS[0], "show a blue", *ROWS[2:]), NOW, 1)
        studio.line(4, "")
        self.stands(studio, lines(ROWS[0], "show a blue", *ROWS[2:4], ""), NOW, 2)
        studio.line(4, "")
        self.stands(studio, lines(ROWS[0], "show a blue", *ROWS[2:4], ""), NOW, 3)

    def test_behind_them_all(self):
        studio = Studio(TEXT, moment=(1, 2))
        studio.line(5, "lamp l 1 2 3")
        self.stands(studio, lines(*ROWS, "lamp l 1 2 3"), (1, 2), 1)
        studio.line(6, "")
        self.stands(studio, lines(*ROWS, "lamp l 1 2 3", ""), (1, 2), 2)
        studio.line(7, "# end")
        self.stands(studio, lines(*ROWS, "lamp l 1 2 3", "", "# end"), (1, 2), 3)

    def test_a_line_goes(self):
        studio = Studio(TEXT)
        studio.line(3, None)
        self.stands(studio, lines(*ROWS[:3], LOOK), NOW, 1)
        studio.line(3, None)
        self.stands(studio, lines(*ROWS[:3]), NOW, 2)
        studio.line(1, None)
        studio.line(0, None)
        self.stands(studio, ROWS[2], NOW, 4)
        studio.line(0, None)
        self.stands(studio, "", NOW, 5)
        studio.line(0, None)
        self.stands(studio, "", NOW, 6)

    def test_the_one_line_of_nothing(self):
        studio = Studio()
        studio.line(0, None)
        self.stands(studio, "", NOW, 1)
        studio.line(0, "# a")
        self.stands(studio, "# a", NOW, 2)
        studio.line(0, "")
        self.stands(studio, "", NOW, 3)
        studio.line(1, "# b")
        self.stands(studio, "\n# b", NOW, 4)
        studio.line(0, None)
        self.stands(studio, "# b", NOW, 5)
        studio.line(1, "")
        self.stands(studio, "# b\n", NOW, 6)
        studio.line(1, None)
        self.stands(studio, "# b", NOW, 7)

    def test_several_lines_at_once(self):
        studio = Studio(TEXT)
        studio.line(1, "# a\n\nshow a blue")
        self.stands(studio, lines(ROWS[0], "# a", "", "show a blue", *ROWS[2:]), NOW, 1)
        studio.line(7, "\n")
        self.stands(studio, lines(ROWS[0], "# a", "", "show a blue", *ROWS[2:], "", ""), NOW, 2)
        studio.line(8, "lamp l 0 0 0\nlamp m 0 0 0")
        self.stands(studio, lines(ROWS[0], "# a", "", "show a blue", *ROWS[2:], "", "lamp l 0 0 0", "lamp m 0 0 0"), NOW, 3)

    def test_no_line(self):
        studio = Studio(TEXT)
        studio.look("eye")
        for number in (-1, 6, 7, -5, True, False, None, "1", "", (1,), [1], {}, 10 ** 59, -(10 ** 59), (0, 1)):
            for words in ("# a", "", None, 7, "box", "a\nb", ["# a"]):
                self.changes_nothing_of(studio, NoLine, studio.line, number, words)
        self.changes_nothing_of(studio, NoLine, studio.line, 5, None)
        for thing in anything() + texts():
            if thing not in (0, 1) or isinstance(thing, bool):
                self.changes_nothing_of(studio, NoLine, studio.line, thing, "# a")
        empty = Studio()
        self.changes_nothing_of(empty, NoLine, empty.line, 1, None)
        self.changes_nothing_of(empty, NoLine, empty.line, 2, "# a")

    def test_bad_scenes(self):
        studio = Studio(TEXT)
        studio.look("eye")
        for number, words, fields in (
            (0, "box a", (0, "word")), (0, None, (0, "none")), (1, "show b red", (1, "none")), (3, "show a red", (3, "twice")), (5, "show a red", (5, "twice")),
            (5, "\t", (5, "long")), (2, "# a\n# b\nball b 0 0 0 0", (4, "kind")), (4, "#" * 201, (4, "long")), (5, "\n" * 75, (80, "long")),
        ):
            self.changes_nothing_of(studio, BadScene, studio.line, number, words, fields=fields)

    def test_words_that_are_no_text(self):
        studio = Studio(TEXT)
        for thing in anything():
            for number in (0, 1, 4, 5):
                self.changes_nothing_of(studio, BadScene, studio.line, number, thing, fields=(number, "long"))
        empty = Studio()
        self.changes_nothing_of(empty, BadScene, empty.line, 0, 7, fields=(0, "long"))
        self.changes_nothing_of(empty, BadScene, empty.line, 1, (), fields=(1, "long"))

    def test_the_last_lines_of_a_long_text(self):
        studio = Studio("\n" * 79)
        self.changes_nothing_of(studio, BadScene, studio.line, 80, "", fields=(80, "long"))
        self.changes_nothing_of(studio, BadScene, studio.line, 80, "# a", fields=(80, "long"))
        studio.line(79, "# a")
        self.stands(studio, "\n" * 79 + "# a", NOW, 1)
        studio.line(3, None)
        studio.line(79, "# b")
        self.stands(studio, "\n" * 78 + "# a\n# b", NOW, 3)


class Go(StudioCase):
    def test_moments(self):
        studio = Studio(TEXT)
        for deeds, moment in enumerate(MOMENTS + [MOMENTS[-1]], start=1):
            self.tells(studio.go(moment), None)
            self.stands(studio, TEXT, moment, deeds)

    def test_refused(self):
        studio = Studio(TEXT, moment=(1, 3))
        studio.look("eye")
        for thing in NO_MOMENTS + texts():
            self.changes_nothing_of(studio, NoMoment, studio.go, thing)
        for thing in anything():
            if thing not in ((0, 1), (1, 2)):
                self.changes_nothing_of(studio, NoMoment, studio.go, thing)


class Back(StudioCase):
    def test_nothing(self):
        studio = Studio(TEXT)
        self.changes_nothing_of(studio, Nothing, studio.back)
        studio.look("eye")
        self.changes_nothing_of(studio, Nothing, studio.back)
        self.stands(studio, TEXT, NOW, 0)

    def test_each_deed(self):
        studio = Studio(TEXT, moment=(1, 2))
        studio.write("# a")
        studio.line(0, "# b")
        studio.go((2, 1))
        studio.line(1, "")
        self.stands(studio, "# b\n", (2, 1), 4)
        for deeds, text, moment in ((3, "# b", (2, 1)), (2, "# b", (1, 2)), (1, "# a", (1, 2)), (0, TEXT, (1, 2))):
            self.tells(studio.back(), None)
            self.stands(studio, text, moment, deeds)
        self.changes_nothing_of(studio, Nothing, studio.back)

    def test_deeds_behind_one_taken_back(self):
        studio = Studio()
        studio.write("# a")
        studio.write("# b")
        studio.back()
        studio.write("# c")
        self.stands(studio, "# c", NOW, 2)
        studio.back()
        self.stands(studio, "# a", NOW, 1)
        studio.back()
        self.stands(studio, "", NOW, 0)
        self.changes_nothing_of(studio, Nothing, studio.back)

    def test_deeds_that_change_nothing_and_those_refused(self):
        studio = Studio(TEXT)
        studio.write(TEXT)
        studio.go(NOW)
        studio.line(0, ROWS[0])
        for refused, kind in ((lambda: studio.write("box"), BadScene), (lambda: studio.go(None), NoMoment), (lambda: studio.line(9, ""), NoLine)):
            self.refuses(kind, refused)
        self.stands(studio, TEXT, NOW, 3)
        for deeds in (2, 1, 0):
            studio.back()
            self.stands(studio, TEXT, NOW, deeds)

    def test_very_many(self):
        studio = Studio()
        for number in range(200):
            studio.write(f"# {number}")
        self.tells(len(studio), 200)
        for number in range(198, -1, -1):
            studio.back()
            self.tells(studio.text(), f"# {number}")
        studio.back()
        self.stands(studio, "", NOW, 0)


class Look(StudioCase):
    def shows(self, studio, name, asked):
        """The picture is that of asking all anew, and so many cells were asked."""
        (look,) = [look for look in studio.scene()[3] if look[0] == name]
        told = studio.look(name)
        self.tells(told, plain_picture(studio.scene(), studio.moment(), look))
        self.tells(studio.asked(), asked)
        return told

    def not_kept(self, old, new, look):
        return sum(row.count(False) for row in kept(old, new, look))

    def test_the_first_time_all_cells_then_none(self):
        studio = Studio(TEXT)
        self.tells(studio.asked(), 0)
        told = self.shows(studio, "eye", 36)
        self.assertEqual(told[3][3], (("a", "red", "a", 0, ()),))
        self.shows(studio, "eye", 0)
        self.shows(studio, "eye", 0)
        self.stands(studio, TEXT, NOW, 0)

    def test_after_a_change(self):
        studio = Studio(TEXT)
        (look,) = studio.scene()[3]
        self.shows(studio, "eye", 36)
        state = (studio.scene(), studio.moment())
        for deed in (
            lambda: studio.line(1, "show a blue"), lambda: studio.go((1, 2)), lambda: studio.line(1, "show a blue move 0 1 0"), lambda: studio.line(3, "# b"),
            lambda: studio.line(3, "show b red mirror"), lambda: studio.line(2, "box b 5 2 2 6 3 3"), lambda: studio.go((5, 1)), lambda: studio.go((1, 9)),
        ):
            deed()
            new = (studio.scene(), studio.moment())
            asked = self.not_kept(state, new, look)
            self.shows(studio, "eye", asked)
            self.assertLess(asked, 20)
            state = new

    def test_several_changes_between(self):
        studio = Studio(TEXT)
        (look,) = studio.scene()[3]
        self.shows(studio, "eye", 36)
        state = (studio.scene(), studio.moment())
        studio.line(1, "show a blue move 0 1 0")
        studio.go((3, 2))
        studio.line(3, "show b green")
        new = (studio.scene(), studio.moment())
        self.assertTrue(0 < self.not_kept(state, new, look) < 36)
        self.shows(studio, "eye", self.not_kept(state, new, look))
        self.shows(studio, "eye", 0)

    def test_from_the_last_picture_not_from_an_earlier_one(self):
        studio = Studio(TEXT)
        self.shows(studio, "eye", 36)
        studio.line(1, "show a blue")
        changed = self.not_kept((read_scene(TEXT), NOW), (studio.scene(), NOW), studio.scene()[3][0])
        self.assertGreater(changed, 0)
        self.shows(studio, "eye", changed)
        studio.line(1, "show a red move 0 1 0")
        # The first picture was of just this state, but the last one counts.
        self.shows(studio, "eye", changed)
        self.shows(studio, "eye", 0)

    def test_a_picture_stays_when_a_deed_is_taken_back(self):
        studio = Studio(TEXT)
        self.shows(studio, "eye", 36)
        studio.write("")
        self.refuses(NoLook, studio.look, "eye")
        studio.back()
        self.shows(studio, "eye", 0)
        studio.line(1, "show a blue")
        asked = self.not_kept((read_scene(TEXT), NOW), (studio.scene(), NOW), studio.scene()[3][0])
        studio.back()
        self.shows(studio, "eye", 0)
        studio.line(1, "show a blue")
        self.shows(studio, "eye", asked)
        studio.back()
        self.shows(studio, "eye", asked)

    def test_a_look_put_back_by_its_line(self):
        studio = Studio(TEXT)
        self.shows(studio, "eye", 36)
        studio.line(4, None)
        self.refuses(NoLook, studio.look, "eye")
        self.tells(studio.asked(), 36)
        studio.line(0, LOOK + "\n" + ROWS[0])
        self.shows(studio, "eye", 0)

    def test_another_look_of_that_name(self):
        studio = Studio(TEXT)
        self.shows(studio, "eye", 36)
        studio.line(4, "look eye 0 0 0 5 -3 -3 0 6 0 0 0 6 3 2")
        self.shows(studio, "eye", 6)
        studio.line(4, "look eye 0 0 1 5 -3 -3 0 6 0 0 0 6 3 2")
        self.shows(studio, "eye", 6)
        studio.line(4, LOOK)
        self.shows(studio, "eye", 0)
        # A look of the same place and window, but of another name, is another look.
        studio.line(4, LOOK.replace("eye", "ear"))
        self.shows(studio, "ear", 36)

    def test_two_looks(self):
        studio = Studio(TEXT)
        studio.line(5, "look far 0 0 0 -5 -3 -3 0 6 0 0 0 6 2 2")
        self.shows(studio, "eye", 36)
        self.shows(studio, "far", 4)
        self.shows(studio, "eye", 0)
        studio.line(1, "show a blue")
        self.shows(studio, "far", 0)
        asked = self.not_kept((read_scene(TEXT), NOW), (studio.scene(), NOW), studio.scene()[3][0])
        self.shows(studio, "eye", asked)

    def test_all_anew_where_anything_may_be_touched(self):
        studio = Studio(TEXT)
        self.shows(studio, "eye", 36)
        for row in ("lamp l 1 2 3", "lamp l 1 2 4", "half h 0 0 1 -99\nshow h red", "# none"):
            studio.write(lines(TEXT, row))
            self.shows(studio, "eye", 36)

    def test_no_look(self):
        studio = Studio(TEXT)
        studio.look("eye")
        for thing in anything() + texts() + [None, "a", "b", "eyes", "Eye", "eye ", ("eye",), ["eye"], studio.scene()[3][0]]:
            self.changes_nothing_of(studio, NoLook, studio.look, thing)
        empty = Studio()
        self.changes_nothing_of(empty, NoLook, empty.look, "eye")
        self.tells(empty.asked(), 0)

    def test_told_pictures_stay(self):
        studio = Studio(TEXT)
        first = studio.look("eye")
        before = repr(first)
        studio.line(1, "show a blue")
        second = studio.look("eye")
        self.assertNotEqual(first, second)
        self.assertEqual(repr(first), before)

    def test_texts_edited_line_by_line(self):
        source = random.Random(80)
        some = 0
        for turn in range(12):
            rows = World(source, room=turn % 4 == 0).rows()
            studio = Studio(lines(*rows))
            for again in range(10):
                changed = edited(source, rows)
                if len(changed) == len(rows):
                    for at, (old, new) in enumerate(zip(rows, changed)):
                        if old != new and not faults(lines(*rows[:at], new, *rows[at + 1:])):
                            studio.line(at, new)
                            rows = rows[:at] + [new] + rows[at + 1:]
                else:
                    studio.write(lines(*changed))
                    rows = changed
                if source.random() < 0.3:
                    studio.go(source.choice(((1, 2), (0, 1), (-1, 3))))
                if source.random() < 0.2 and len(studio):
                    studio.back()
                    rows = studio.text().split("\n")
                for look in studio.scene()[3]:
                    if source.random() < 0.7:
                        told = studio.look(look[0])
                        self.tells(told, picture(studio.scene(), studio.moment(), look))
                        some += 0 < studio.asked() < look[5] * look[6]
        self.assertGreater(some, 20)


class Log(StudioCase):
    def test_begun_and_ended(self):
        studio = Studio(TEXT)
        self.tells(studio.log(), [])
        wanted = []
        for word, deed, kind in (
            ("write", lambda: studio.write(TEXT), None), ("line", lambda: studio.line(0, ROWS[0]), None), ("go", lambda: studio.go((1, 2)), None),
            ("look", lambda: studio.look("eye"), None), ("back", lambda: studio.back(), None), ("write", lambda: studio.write("box"), BadScene),
            ("write", lambda: studio.write(None), BadScene), ("line", lambda: studio.line(0, None), BadScene), ("line", lambda: studio.line(-1, ""), NoLine),
            ("line", lambda: studio.line(0, 7), BadScene), ("go", lambda: studio.go(None), NoMoment), ("look", lambda: studio.look(None), NoLook),
            ("back", lambda: studio.back(), None), ("back", lambda: studio.back(), None), ("back", lambda: studio.back(), Nothing),
        ):
            if kind is None:
                deed()
            else:
                self.refuses(kind, deed)
            wanted += [("begun", word), ("ended", word, kind is None)]
            self.tells(studio.log(), wanted)

    def test_the_last_rows(self):
        studio = Studio()
        wanted = []
        for number in range(50):
            if number % 3:
                studio.write("")
                wanted += [("begun", "write"), ("ended", "write", True)]
            else:
                self.refuses(NoLook, studio.look, number)
                wanted += [("begun", "look"), ("ended", "look", False)]
            self.tells(studio.log(), wanted[-LOGGED:])
            self.assertLessEqual(len(studio.log()), 60)

    def test_a_list_of_the_asker_s_own(self):
        studio = Studio()
        studio.go((1, 2))
        told = studio.log()
        told.append("x")
        told[0] = None
        self.tells(studio.log(), [("begun", "go"), ("ended", "go", True)])
        told = studio.log()
        self.assertIsNot(told, studio.log())
        studio.go((1, 2))
        self.tells(told, [("begun", "go"), ("ended", "go", True)])
        studio.log().clear()
        self.tells(len(studio.log()), 4)
        for again in range(40):
            studio.back() if len(studio) else studio.go((1, 2))
        told = studio.log()
        before = list(told)
        studio.go((1, 2))
        self.tells(told, before)

    def test_what_writes_no_log(self):
        studio = Studio(TEXT)
        studio.text(), studio.scene(), studio.moment(), studio.log(), studio.asked(), len(studio), bool(studio), str(studio), studio == Studio()
        studio.lead("eye", 0, 0)
        self.refuses(NoLook, studio.lead, None, 0, 0)
        self.refuses(NoCell, studio.lead, "eye", 6, 0)
        self.tells(studio.log(), [])

    def test_both_rows_also_where_something_else_goes_wrong(self):
        studio = Studio(TEXT)
        with mock.patch.object(studios, "picture", side_effect=KeyError):
            with self.assertRaises(KeyError):
                studio.look("eye")
        self.tells(studio.log(), [("begun", "look"), ("ended", "look", False)])


class Lead(StudioCase):
    text = lines("", "# a", *ROWS[:2], "  ", *ROWS[2:])

    def test_lines(self):
        studio = Studio(self.text)
        (look,) = studio.scene()[3]
        found = set()
        for moment in (NOW, (1, 1)):
            studio.go(moment)
            for row in range(6):
                for column in range(6):
                    told = studio.lead("eye", column, row)
                    self.tells(told, lead(self.text, cell(studio.scene(), moment, look, column, row)))
                    found.add(told)
        self.assertEqual(found, {(), ((3, 2),), ((6, 5),)})
        self.tells(studio.lead("eye", 0, 0), ((6, 5),))
        # A thing's own column and row, not the other way about.
        self.tells((studio.lead("eye", 4, 3), studio.lead("eye", 3, 4)), (((3, 2),), ()))

    def test_no_look_then_no_cell(self):
        studio = Studio(lines(*ROWS[:4], "look eye 0 0 0 5 -3 -3 0 6 0 0 0 6 3 2"))
        for name in anything() + texts() + [None, "a", "ear", ("eye",)]:
            self.refuses(NoLook, studio.lead, name, 0, 0)
            self.refuses(NoLook, studio.lead, name, None, 99)
        for column in (0, 1, 2):
            for row in (0, 1):
                studio.lead("eye", column, row)
        for wrong in [-1, 3, 12, None, True, False, "0", "", (0,), [0], {}, (0, 1), 10 ** 59, -(10 ** 59)]:
            self.refuses(NoCell, studio.lead, "eye", wrong, 0)
            self.refuses(NoCell, studio.lead, "eye", wrong, wrong)
            self.refuses(NoCell, studio.lead, "eye", 0, wrong)
        self.refuses(NoCell, studio.lead, "eye", 0, 2)
        self.refuses(NoCell, studio.lead, "eye", 2, 2)
        for thing in anything():
            if thing not in (0, 1) or isinstance(thing, bool):
                self.refuses(NoCell, studio.lead, "eye", thing, 0)
                self.refuses(NoCell, studio.lead, "eye", 0, thing)

    def test_it_asks_no_cell(self):
        studio = Studio(self.text)
        studio.lead("eye", 1, 1)
        self.tells((studio.asked(), studio.log()), (0, []))
        studio.look("eye")
        self.tells(studio.asked(), 36)
        studio.lead("eye", 1, 1)
        self.tells(studio.asked(), 36)
        other = Studio(self.text)
        other.lead("eye", 1, 1)
        other.look("eye")
        self.tells(other.asked(), 36)


class Whole(StudioCase):
    def test_equality(self):
        one, other = Studio(TEXT), Studio(TEXT)
        self.tells((one == other, one != other, one == one), (True, False, True))
        one.look("eye")
        one.write("")
        one.write(TEXT)
        self.tells((one == other, other == one), (True, True))
        one.go((1, 2))
        self.tells((one == other, one != other), (False, True))
        other.go((1, 2))
        self.tells(one == other, True)
        other.write(TEXT + "\n")
        self.tells(one == other, False)
        self.tells(Studio() == Studio(moment=(0, 1)), True)
        # The texts count, not the scenes.
        self.tells(Studio("# a") == Studio("# b"), False)

    def test_a_studio_equals_nothing_else(self):
        for studio in (Studio(), Studio(TEXT)):
            for thing in anything() + texts() + [None, studio.text(), (studio.text(), studio.moment()), studio.scene(), [studio.text()]]:
                self.tells((studio == thing, thing == studio, studio != thing), (False, False, True))

    def test_truth_and_length(self):
        studio = Studio(TEXT)
        self.tells((len(studio), bool(studio)), (0, False))
        studio.look("eye")
        self.tells((len(studio), bool(studio)), (0, False))
        studio.go((1, 2))
        self.tells((len(studio), bool(studio)), (1, True))
        studio.back()
        self.tells((len(studio), bool(studio)), (0, False))

    def test_two_studios_side_by_side(self):
        one, other = Studio(TEXT), Studio(TEXT)
        one.look("eye")
        one.line(1, "show a blue")
        one.go((1, 2))
        self.stands(other, TEXT, NOW, 0)
        self.tells((other.asked(), other.log()), (0, []))
        other.look("eye")
        self.tells((one.asked(), other.asked()), (36, 36))
        other.write("")
        self.stands(one, lines(ROWS[0], "show a blue", *ROWS[2:]), (1, 2), 2)
        self.tells(len(one.log()), 6)

    def test_what_is_handed_in_is_not_changed(self):
        for thing in ([1, [2]], {"a": [1]}, ([], {})):
            before = copy.deepcopy(thing)
            studio = Studio(TEXT)
            for kind, function, handed in (
                (BadScene, studio.write, (thing,)), (NoLine, studio.line, (thing, thing)), (BadScene, studio.line, (0, thing)), (NoMoment, studio.go, (thing,)),
                (NoLook, studio.look, (thing,)), (NoLook, studio.lead, (thing, thing, thing)), (NoCell, studio.lead, ("eye", thing, thing)), (BadScene, Studio, (thing,)),
            ):
                self.refuses(kind, function, *handed)
                self.tells(thing, before)

    def test_the_same_call_tells_the_same(self):
        studio = Studio(TEXT)
        for ask in (studio.text, studio.scene, studio.moment, studio.log, studio.asked, lambda: studio.look("eye"), lambda: studio.lead("eye", 3, 3), lambda: str(studio)):
            self.tells(ask(), ask())

    def test_names_and_arguments(self):
        self.assertEqual(Studio.__module__, "scenetongue.studios")
        self.assertEqual(str(inspect.signature(Studio)), "(text='', *, moment=(0, 1))")
        for name, arguments in (
            ("write", ["text"]), ("line", ["number", "words"]), ("go", ["moment"]), ("look", ["name"]), ("asked", []), ("back", []), ("text", []), ("scene", []),
            ("moment", []), ("log", []), ("lead", ["name", "column", "row"]),
        ):
            self.assertEqual(list(inspect.signature(vars(Studio)[name]).parameters), ["self", *arguments])

    def test_a_look_s_picture_by_hand(self):
        studio = Studio(lines("box a 5 -9 -9 6 9 9", "show a red mirror", "ball b -5 0 0 1", "show b blue", "lamp l 0 0 9", "look eye 0 0 0 1 -1 -1 0 2 0 0 0 2 1 1"))
        self.tells(studio.look("eye"), (((("a", "red", "a", 0, ("l",)), ("b", "blue", "b", 0, ("l",))),),))
        self.tells(studio.lead("eye", 0, 0), ((1, 0), (3, 2)))
        self.tells(studio.scene(), scene_of(*studio.text().split("\n")))
        self.assertEqual(studio.scene()[3][0][1], pt("0 0 0"))


if __name__ == "__main__":
    unittest.main()
