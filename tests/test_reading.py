"""Reading: the scene of a text, its refusals, and the lines that lead to a cell."""
import inspect
import unittest

from helping import Exactly, anything, lines, pt, texts
from scenetongue import reading
from scenetongue.errors import BadScene
from scenetongue.reading import faults, lead, read_scene

NOTHING = ((), (), (), ())
NOUGHTS = ((0, 1), (0, 1), (0, 1))
BOX = ("a", ("box", NOUGHTS, ((1, 1), (1, 1), (1, 1))))
BOX_LINE = "box a 0 0 0 1 1 1"


class ReadScene(Exactly):
    def test_texts_of_nothing(self):
        for text in ("", "\n", "# only a remark", "   \n\n#\n", "\n" * 79):
            self.tells(read_scene(text), NOTHING)

    def test_each_line_that_makes_a_body(self):
        for row, form in (
            ("box b -1/2 0 3 1 2/3 10", ("box", pt("-1/2 0 3"), pt("1 2/3 10"))),
            ("ball b 1 -2 3/7 5/4", ("ball", pt("1 -2 3/7"), (5, 4))),
            ("half b 0 -1/2 3 -4/5", ("half", pt("0 -1/2 3"), (-4, 5))),
            ("half b 2 0 0 0", ("half", pt("2 0 0"), (0, 1))),
            ("join b a a", ("join", 0, 0)),
            ("cut b a a", ("cut", 0, 0)),
            ("meet b a a", ("meet", 0, 0)),
            ("slide b a 1 -2/3 0", ("slide", 0, pt("1 -2/3 0"))),
            ("slide b a 0 0 0", ("slide", 0, NOUGHTS)),
            ("turn b a x 3/5 -4/5", ("turn", 0, "x", (3, 5), (-4, 5))),
            ("turn b a y 0 1", ("turn", 0, "y", (0, 1), (1, 1))),
            ("turn b a z -1 0", ("turn", 0, "z", (-1, 1), (0, 1))),
        ):
            self.tells(read_scene(lines(BOX_LINE, row)), ((BOX, ("b", form)), (), (), ()))

    def test_bodies_ahead_by_their_numbers(self):
        text = lines(
            BOX_LINE, "", "ball b 0 0 0 1", "# c", "cut c b a", "lamp a 1 2 3", "join d a c", "slide e d 1 1 1",
            "turn f c z 0 1", "meet g f e", "meet h b g",
        )
        forms = [form for name, form in read_scene(text)[0]]
        self.tells(forms[2:], [
            ("cut", 1, 0), ("join", 0, 2), ("slide", 3, pt("1 1 1")), ("turn", 2, "z", (0, 1), (1, 1)),
            ("meet", 5, 4), ("meet", 1, 6),
        ])
        self.tells([name for name, form in read_scene(text)[0]], list("abcdefgh"))

    def test_things(self):
        for row, thing in (
            ("show a red", (0, "red", False, NOUGHTS)),
            ("show a red mirror", (0, "red", True, NOUGHTS)),
            ("show a red move 1 -1/2 0", (0, "red", False, pt("1 -1/2 0"))),
            ("show a red mirror move 0 0 3/4", (0, "red", True, pt("0 0 3/4"))),
            ("show a red move 0 0 0", (0, "red", False, NOUGHTS)),
            ("show a red mirror move 0 0 0", (0, "red", True, NOUGHTS)),
            ("show a mirror", (0, "mirror", False, NOUGHTS)),
            ("show a mirror mirror", (0, "mirror", True, NOUGHTS)),
            ("show a move", (0, "move", False, NOUGHTS)),
            ("show a move mirror", (0, "move", True, NOUGHTS)),
            ("show a move move 1 2 3", (0, "move", False, pt("1 2 3"))),
            ("show a mirror move 1 2 3", (0, "mirror", False, pt("1 2 3"))),
            ("show a mirror mirror move 1 2 3", (0, "mirror", True, pt("1 2 3"))),
        ):
            self.tells(read_scene(lines(BOX_LINE, row)), ((BOX,), (thing,), (), ()))

    def test_things_in_the_order_of_their_lines(self):
        text = lines(BOX_LINE, "ball b 0 0 0 1", "show b blue", "join c a b", "show c cyan", "show a azure")
        self.tells(read_scene(text)[1], (
            (1, "blue", False, NOUGHTS), (2, "cyan", False, NOUGHTS), (0, "azure", False, NOUGHTS),
        ))

    def test_lamps_and_looks(self):
        text = lines(
            "look q 0 0 0 -1 -1 1 2 0 0 0 2 0 3 12", "lamp z 1 2 -3/4", "look p 0 0 1/2 1 1 1 1/3 0 0 0 -1 0 1 1",
            "lamp a 0 0 0",
        )
        self.tells(read_scene(text), (
            (), (), (("z", pt("1 2 -3/4")), ("a", NOUGHTS)),
            (
                ("q", NOUGHTS, pt("-1 -1 1"), pt("2 0 0"), pt("0 2 0"), 3, 12),
                ("p", pt("0 0 1/2"), pt("1 1 1"), pt("1/3 0 0"), pt("0 -1 0"), 1, 1),
            ),
        ))

    def test_numbers_as_fractions(self):
        for word, number in (
            ("0", (0, 1)), ("7", (7, 1)), ("-7", (-7, 1)), ("999999", (999999, 1)), ("-999999", (-999999, 1)),
            ("1/2", (1, 2)), ("-1/2", (-1, 2)), ("999998/999999", (999998, 999999)), ("-5/3", (-5, 3)),
        ):
            self.tells(read_scene(f"lamp a {word} 0 {word}")[2], (("a", (number, (0, 1), number)),))

    def test_blanks_and_remarks_change_nothing(self):
        plain = lines(BOX_LINE, "show a red mirror", "lamp a 1 2 3")
        other = lines("# one", "   box  a 0 0   0 1 1 1  ", "", "  #", " show a    red mirror", "#", "lamp a 1 2 3   ", "")
        self.tells(read_scene(other), read_scene(plain))


class Refused(Exactly):
    def refuses(self, text, at, why):
        with self.assertRaises(ValueError) as caught:
            read_scene(text)
        self.assertIs(type(caught.exception), BadScene)
        self.tells((caught.exception.at, caught.exception.why), (at, why))

    def test_the_first_fault_is_told(self):
        for text, at, why in (
            ("zz", 0, "word"), ("\n\nzz\nzz", 2, "word"), (lines(BOX_LINE, "box A 0 0 0 1 1 1", "zz"), 1, "name"),
            (lines(BOX_LINE, "turn b a w 1 0"), 1, "axis"), ("lamp a 1 2 01", 0, "number"), ("show a red", 0, "none"),
            (lines(BOX_LINE, BOX_LINE), 1, "twice"), ("ball a 0 0 0 0", 0, "kind"), ("\t", 0, "long"),
            (lines(*[f"lamp {name} 1 2 3" for name in "abcd"]), 3, "many"), ("\n" * 80, 80, "long"),
            (lines("ball a 0 0 0 0", "show a red"), 0, "kind"),
        ):
            self.refuses(text, at, why)

    def test_what_is_no_text(self):
        for thing in anything() + [None, b""]:
            self.refuses(thing, 0, "long")

    def test_just_those_texts_are_refused_that_have_faults(self):
        for text in texts():
            told = faults(text)
            if told:
                self.refuses(text, *told[0])
            else:
                self.assertIs(type(read_scene(text)), tuple)


class Lead(Exactly):
    text = lines(
        "# a scene", "", BOX_LINE, "ball b 0 0 0 1", "   ", "cut c a b", "# between", "slide d c 1 2 3", "show d red mirror",
        "", "lamp a 1 2 3", "show a blue", "# end", "half h 0 0 1 0", "join m d h", "show m green move 1 0 0", "",
    )

    def test_lines_of_things_and_leaves(self):
        hits = {
            ("d", "a"): (8, 2), ("d", "b"): (8, 3), ("a", "a"): (11, 2), ("m", "h"): (15, 13), ("m", "b"): (15, 3),
            ("d", None): (8, None), ("a", None): (11, None), ("m", None): (15, None),
        }
        for (thing, leaf), wanted in hits.items():
            face = None if leaf is None else 0
            hit = (thing, "red", leaf, face, ("a",))
            self.tells(lead(self.text, (hit,)), (wanted,))
        cell = tuple((thing, "red", leaf, None if leaf is None else 0, ()) for thing, leaf in list(hits)[:4])
        self.tells(lead(self.text, cell), tuple(list(hits.values())[:4]))

    def test_a_cell_of_nothing(self):
        self.tells(lead(self.text, ()), ())
        self.tells(lead("", ()), ())

    def test_a_mirror_s_trace(self):
        cell = (("d", "red", "a", 0, ()), ("a", "blue", "a", 3, ("a",)), ("d", "red", None, None, ()))
        self.tells(lead(self.text, cell), ((8, 2), (11, 2), (8, None)))
        self.tells(lead(self.text, cell[::-1]), ((8, None), (11, 2), (8, 2)))

    def test_the_line_of_the_leaf_s_body_not_of_what_places_it(self):
        text = lines(BOX_LINE, "slide b a 1 1 1", "turn c b x 1 0", "show c red")
        self.tells(lead(text, (("c", "red", "a", 1, ()),)), ((3, 0),))

    def test_lines_at_the_end(self):
        text = "\n" * 78 + lines(BOX_LINE, "show a red")
        self.tells(lead(text, (("a", "red", "a", 1, ()),)), ((79, 78),))


class Calls(Exactly):
    def test_nothing_is_changed_and_the_same_is_told(self):
        self.changes_nothing(read_scene, Lead.text)
        self.changes_nothing(lead, Lead.text, (("d", "red", "a", 0, ("a",)), ("a", "blue", None, None, ())))

    def test_names_and_arguments(self):
        for name, arguments in (("read_scene", ["text"]), ("lead", ["text", "cell"])):
            function = getattr(reading, name)
            self.assertEqual(list(inspect.signature(function).parameters), arguments)
            self.assertEqual((function.__name__, function.__module__), (name, "scenetongue.reading"))


if __name__ == "__main__":
    unittest.main()
