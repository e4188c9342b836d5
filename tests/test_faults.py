"""The faults of texts: each reason alone, their order, what is spoken of, and how many there may be."""
import inspect
import random
import unittest

from helping import Exactly, anything, lines, texts
from scenetongue import reading
from scenetongue.reading import faults

BOX = "box a 0 0 0 1 1 1"
# A right line of each first word, behind a box called a.
RIGHT = {
    "box": "box b 0 0 0 1 1 1",
    "ball": "ball b 0 0 0 1",
    "half": "half b 0 0 1 0",
    "join": "join b a a",
    "cut": "cut b a a",
    "meet": "meet b a a",
    "slide": "slide b a 1 2 3",
    "turn": "turn b a x 3/5 4/5",
    "show": "show a red",
    "lamp": "lamp b 1 2 3",
    "look": "look b 0 0 0 -1 -1 1 2 0 0 0 2 0 3 4",
}
REASONS = ("long", "word", "name", "axis", "number", "none", "twice", "kind", "many")


def numbered_names(many):
    """So many unlike names, no one of them a or b."""
    letters = "cdefghijklmnopqrstuvwxyz"
    return [first + second for first in letters for second in letters][:many]


class FaultCase(Exactly):
    def finds(self, text, *wanted):
        self.tells(faults(text), tuple(wanted), text[:200])

    def last_is(self, why, *rows):
        """Of these lines just the last one has a fault, that one; None for none."""
        self.finds(lines(*rows), *([] if why is None else [(len(rows) - 1, why)]))


class Right(FaultCase):
    def test_each_right_line(self):
        for row in RIGHT.values():
            self.last_is(None, BOX, row)

    def test_blanks_between_ahead_and_behind(self):
        for row in RIGHT.values():
            self.last_is(None, BOX, "  " + row.replace(" ", "   ") + "    ")

    def test_what_counts_for_nothing(self):
        for row in ("", " ", "     ", "#", "# box", "#box a", "  # x y z", " #", "#" * 200, " " * 200, "# -0 1/1 NAME"):
            self.last_is(None, row)
            self.last_is(None, BOX, row, RIGHT["join"])

    def test_a_sign_behind_a_word_is_no_remark(self):
        self.last_is("word", BOX + " # the first one")
        self.last_is("word", "a# b")
        self.last_is("number", "lamp b 0 0 #")

    def test_the_empty_text_and_line_ends(self):
        self.finds("")
        self.finds("\n")
        self.finds("\n" * 79)
        self.finds("\n" * 80, (80, "long"))
        self.finds("\n" + BOX + "\n\n" + RIGHT["show"] + "\n")


class Long(FaultCase):
    def test_200_and_201_signs(self):
        for row in ("#", "", BOX, "zzz", "box"):
            why = None if row in ("#", "", BOX) else "word"
            self.last_is(why, row.ljust(200))
            self.last_is("long", row.ljust(201))
            self.last_is("long", row.rjust(201))
        self.last_is(None, "#" * 200)
        self.last_is("long", "#" * 201)
        self.last_is("long", "# " + "x" * 199)
        self.last_is("long", "q" * 20000)
        self.last_is(None, "#" * 200, "#" * 200, BOX.ljust(200))

    def test_signs_beyond(self):
        for sign in ("\t", "\r", "\0", "\x1f", "\x7f", "\x80", "\xa0", "\u00e9", "\u2028", "\x0b", "\x0c", "\x85", "\x1c",
                     "\U0001f600"):
            for row in (sign, "#" + sign, BOX + sign, BOX.replace(" ", sign, 1), sign + BOX, "# remark" + sign + "more"):
                self.last_is("long", row)
        self.finds("\r\n" + BOX, (0, "long"))
        self.finds(BOX + "\t\n#\t\n" + RIGHT["join"], (0, "long"), (1, "long"), (2, "none"))

    def test_every_sign_that_may_be(self):
        row = "# " + "".join(chr(code) for code in range(32, 127))
        self.last_is(None, row)

    def test_the_lines_79_and_80(self):
        for row in (BOX, "", "# x", "   "):
            self.finds("\n" * 79 + row)
            self.finds("\n" * 80 + row, (80, "long"))
            self.finds("\n" * 81 + row, (80, "long"), (81, "long"))
        self.finds("\n" * 79 + "zz", (79, "word"))
        self.finds("\n" * 80 + "zz", (80, "long"))
        self.finds("\n".join(["#"] * 90), *[(at, "long") for at in range(80, 90)])

    def test_what_is_no_text(self):
        for thing in anything() + [None, b"", b"box a 0 0 0 1 1 1", 1.5]:
            self.tells(faults(thing), ((0, "long"),), repr(thing)[:80])

    def test_any_text_has_its_faults_told(self):
        for text in texts():
            told = faults(text)
            self.assertIs(type(told), tuple)
            numbers = [at for at, why in told]
            self.assertEqual(numbers, sorted(set(numbers)))
            for row in told:
                self.assertEqual([type(row), type(row[0]), type(row[1])], [tuple, int, str])
                self.assertIn(row[1], REASONS)


class Word(FaultCase):
    def test_first_words(self):
        for word in ("zzz", "Box", "BOX", "boxes", "bo", "mirror", "move", "name", "a", "x", "1", "-", "box:", "long"):
            self.last_is("word", word + BOX[3:])
            self.last_is("word", word)

    def test_a_word_too_many_and_too_few(self):
        for word, row in RIGHT.items():
            self.last_is("word", BOX, row.rpartition(" ")[0])
            self.last_is("word", BOX, row + " 1")
            self.last_is("word", BOX, row + " a")
            self.last_is("word", BOX, word)
            self.last_is("word", BOX, word + " b")
            self.last_is("word", BOX, row + " " + row)

    def test_the_four_forms_of_show(self):
        for rest in ("", " mirror", " move 1 2 3", " mirror move 1 2 3", " move 0 0 0", " mirror move 0 0 0"):
            self.last_is(None, BOX, "show a red" + rest)

    def test_mirror_and_move_elsewhere(self):
        for rest in (
            "move", "mirror mirror", "move mirror", "mirror move", "mirrors", "Mirror", "moves 1 2 3", "move 1 2",
            "move 1", "move 1 2 3 4", "move 1 2 3 mirror", "mirror move 1 2", "mirror move 1 2 3 4", "mirror 1 2 3",
            "1 2 3", "mirror mirror 1 2 3", "move move 1 2 3", "mirror mirror move 1 2 3", "blue", "1 move 2 3",
            "1 2 3 move", "mirror 1 move 2 3", "move mirror 1 2 3", "mirror moves 1 2 3", "mirrored move 1 2 3", "1",
        ):
            self.last_is("word", BOX, "show a red " + rest)
        self.last_is("word", BOX, "show a")
        self.last_is("word", BOX, "show")
        self.last_is("word", BOX, "mirror show a red")
        self.last_is("word", BOX, "show a mirror move")
        self.last_is("word", BOX, "show a move 1 2 3")

    def test_mirror_and_move_as_names(self):
        self.last_is(None, "box mirror 0 0 0 1 1 1", "show mirror mirror")
        self.last_is(None, "box mirror 0 0 0 1 1 1", "show mirror mirror mirror")
        self.last_is(None, "box move 0 0 0 1 1 1", "show move move move 1 2 3")
        self.last_is(None, "box box 0 0 0 1 1 1", "join join box box", "show join show mirror move 1 2 3")
        self.last_is(None, BOX, "show a move")
        self.last_is(None, BOX, "show a mirror move 1 2 3")


class Names(FaultCase):
    wrong = ("abcdefghi", "A", "aB", "Box", "a1", "1", "1a", "a-b", "a.", "-", "_", "a_b", "a/b", "~", "a,", "\"a\"", "0")
    right = ("a", "z", "abcdefgh", "zzzzzzzz", "x", "box", "show", "lamp", "mirror", "az")

    def test_names_that_are(self):
        for name in self.right:
            self.last_is(None, f"box {name} 0 0 0 1 1 1", f"show {name} {name}")
            self.last_is(None, f"lamp {name} 0 0 0")
            self.last_is(None, RIGHT["look"].replace("look b", "look " + name))
            self.last_is(None, f"box {name} 0 0 0 1 1 1", f"join abcdefg {name} {name}")

    def test_names_that_are_none_wherever_they_stand(self):
        for name in self.wrong:
            for row in (
                f"box {name} 0 0 0 1 1 1", f"ball {name} 0 0 0 1", f"half {name} 0 0 1 0", f"join {name} a a",
                f"join b {name} a", f"join b a {name}", f"cut {name} a a", f"cut b {name} a", f"cut b a {name}",
                f"meet {name} a a", f"meet b {name} a", f"meet b a {name}", f"slide {name} a 1 2 3",
                f"slide b {name} 1 2 3", f"turn {name} a x 3/5 4/5", f"turn b {name} x 3/5 4/5", f"show {name} red",
                f"show a {name}", f"show a {name} mirror", f"show {name} red move 1 2 3",
                f"show a {name} mirror move 1 2 3", f"lamp {name} 1 2 3", f"look {name} 0 0 0 -1 -1 1 2 0 0 0 2 0 3 4",
            ):
                self.last_is("name", BOX, row)

    def test_a_name_of_no_letters_is_a_word_too_few(self):
        self.last_is("word", "box  0 0 0 1 1 1")
        self.last_is("word", "lamp  1 2 3")


class Axes(FaultCase):
    def test_axes(self):
        for axis in ("x", "y", "z"):
            self.last_is(None, BOX, f"turn b a {axis} 3/5 4/5")
        for axis in ("X", "Y", "Z", "w", "xy", "xyz", "a", "0", "1", "-x", "x.", "/", "axis"):
            self.last_is("axis", BOX, f"turn b a {axis} 3/5 4/5")


class Numbers(FaultCase):
    right = (
        "0", "1", "-1", "9", "10", "100", "999999", "-999999", "100000", "1/2", "-1/2", "999999/2", "1/999999",
        "-999998/999999", "2/3", "3/2", "10/3", "-7/10", "999999/1000", "123456/100001",
    )
    wrong = (
        "-0", "00", "01", "-01", "000001", "1/1", "2/4", "1/-2", "-/2", "+1", "1/", "/2", "/", "1//2", "1/2/3", "--1",
        "1000000", "-1000000", "1/1000000", "1000000/3", "1234567", "1/0", "0/1", "0/2", "0/3", "-0/2", "1/02", "01/2",
        "-1/-2", "4/2", "3/3", "6/9", "-6/9", "1.5", "1e3", "a", "x", "-", "1-", "1_0", "0x1", "1,", "1/2/", "1/+2",
        "+1/2", "5/1", "-5/1", "0/0", "-1/1", "1/a", "a/2", "999999/999999", "0000000", "1/2a", "~", "#", "-a",
    )

    def test_numbers_that_are(self):
        for number in self.right:
            for place in range(3):
                self.last_is(None, "lamp b " + " ".join([number if place == at else "7" for at in range(3)]))

    def test_numbers_that_are_none(self):
        for number in self.wrong:
            for place in range(3):
                self.last_is("number", "lamp b " + " ".join([number if place == at else "7" for at in range(3)]))

    def test_wherever_they_stand(self):
        for word, row in RIGHT.items():
            words = row.split()
            for at in range(2, len(words)):
                if words[at][-1].isdigit():
                    changed = words[:at] + ["01"] + words[at + 1:]
                    self.last_is("number", BOX, " ".join(changed))
        for at in range(3):
            move = " ".join(["2/4" if place == at else "1" for place in range(3)])
            self.last_is("number", BOX, "show a red move " + move)
            self.last_is("number", BOX, "show a red mirror move " + move)

    def test_columns_and_rows(self):
        start = "look b 0 0 0 -1 -1 1 2 0 0 0 2 0 "
        for count in ("1", "2", "7", "11", "12"):
            self.last_is(None, start + count + " 1")
            self.last_is(None, start + "1 " + count)
            self.last_is(None, start + count + " " + count)
        for count in ("0", "13", "-1", "-12", "1/2", "3/2", "12/1", "01", "-0", "99", "100", "999999", "1000000", "a", "+1",
                      "1/", "25/2", "--1"):
            self.last_is("number", start + count + " 1")
            self.last_is("number", start + "1 " + count)


class SpokenOf(FaultCase):
    def rows_about(self, name):
        return [
            f"join b {name} a", f"join b a {name}", f"cut b {name} a", f"cut b a {name}", f"meet b {name} a",
            f"meet b a {name}", f"slide b {name} 1 2 3", f"turn b {name} x 3/5 4/5", f"show {name} red",
            f"show {name} red mirror", f"show {name} red move 1 2 3", f"show {name} red mirror move 1 2 3",
        ]

    def test_a_body_ahead(self):
        for row in self.rows_about("c"):
            self.last_is(None, BOX, "ball c 0 0 0 1", row)
            self.last_is(None, BOX, "ball c 0 0 0 1", "", "# c", row)

    def test_a_body_behind_or_missing(self):
        for row in self.rows_about("c"):
            self.last_is("none", BOX, row)
            self.finds(lines(BOX, row, "ball c 0 0 0 1"), (1, "none"))

    def test_a_body_of_its_own_line(self):
        for row in ("join b b a", "join b a b", "cut b b b", "slide b b 1 2 3", "turn b b x 3/5 4/5"):
            self.last_is("none", BOX, row)

    def test_a_body_of_a_line_with_a_fault(self):
        for wrong, why in (
            ("box c 0 0 0 1 1", "word"), ("box c 0 0 0 1 1 01", "number"), ("box c 0 0 0 1 1 0", "kind"),
            ("join c a d", "none"), ("turn c a w 1 0", "axis"), ("# c".ljust(201), "long"), ("box c 0 0 0\t1 1 1", "long"),
        ):
            for row in self.rows_about("c"):
                self.finds(lines(BOX, wrong, row), (1, why), (2, "none"))

    def test_a_chain_of_lacking_bodies(self):
        self.finds(
            lines("ball a 0 0 0 0", "slide b a 1 1 1", "turn c b x 1 0", "join d c c", "show d red", "show a red"),
            (0, "kind"), (1, "none"), (2, "none"), (3, "none"), (4, "none"), (5, "none"),
        )

    def test_lamps_and_looks_are_no_bodies(self):
        for row in self.rows_about("c"):
            self.last_is("none", BOX, "lamp c 1 2 3", row)
            self.last_is("none", BOX, RIGHT["look"].replace("look b", "look c"), row)

    def test_the_same_body_twice_in_a_line(self):
        self.last_is(None, BOX, "join b a a", "cut c b b", "meet d c b")


class Taken(FaultCase):
    def test_names_taken_by_a_body(self):
        for word, row in RIGHT.items():
            if word in ("show", "lamp", "look"):
                continue
            for other, taken in RIGHT.items():
                if other not in ("show", "lamp", "look"):
                    self.last_is("twice", BOX, taken, row)
            self.last_is("twice", BOX, row.replace(" b ", " a ", 1))

    def test_names_taken_by_a_lamp_or_a_look(self):
        self.last_is("twice", RIGHT["lamp"], RIGHT["lamp"])
        self.last_is("twice", RIGHT["lamp"], "lamp b 4 5 6")
        self.last_is("twice", RIGHT["look"], RIGHT["look"])
        self.last_is("twice", RIGHT["look"], RIGHT["look"][:-1] + "9")
        self.last_is("twice", RIGHT["lamp"], "lamp c 1 2 3", RIGHT["lamp"])

    def test_a_lamp_a_look_and_a_body_may_be_called_alike(self):
        rows = [RIGHT["box"], "show b b", RIGHT["lamp"], RIGHT["look"]]
        self.last_is(None, *rows)
        self.last_is(None, *rows[2:], *rows[:2])

    def test_a_body_shown_twice(self):
        for first in ("show a red", "show a red mirror", "show a blue move 1 2 3"):
            for second in ("show a red", "show a blue", "show a red mirror", "show a red mirror move 1 2 3"):
                self.last_is("twice", BOX, first, second)
        self.last_is(None, BOX, "slide b a 0 0 0", "show a red", "show b red")

    def test_what_a_fault_would_have_taken_is_free(self):
        self.finds(lines("ball a 0 0 0 0", BOX), (0, "kind"))
        self.finds(lines("lamp b 1 2 x", RIGHT["lamp"]), (0, "number"))
        self.finds(lines(RIGHT["look"][:-1] + "0", RIGHT["look"]), (0, "number"))
        self.finds(lines("show a red", BOX, "show a red"), (0, "none"))
        self.finds(lines(BOX, "show a Red", "show a red"), (1, "name"))
        self.finds(lines(BOX, "box a 1 1 1 2 2 2", "box a 1 1 1 2 2 2"), (1, "twice"), (2, "twice"))


class Kind(FaultCase):
    def test_flat_boxes(self):
        for row in ("0 0 0 0 1 1", "0 0 0 1 0 1", "0 0 0 1 1 0", "0 0 0 -1 1 1", "0 0 0 1 -1 1", "0 0 0 1 1 -1",
                    "1/2 0 0 1/3 1 1", "0 0 0 0 0 0", "5 5 5 1 1 1", "0 -1/2 0 1 -2/3 1", "0 0 1/3 1 1 1/3"):
            self.last_is("kind", "box b " + row)
        for row in ("1/3 0 0 1/2 1 1", "-1 -1 -1 -1/2 -1/3 -1/4", "0 0 0 1/999999 1 1", "-2/3 -2/3 -2/3 -1/2 -1/2 -1/2"):
            self.last_is(None, "box b " + row)

    def test_balls_and_half_spaces(self):
        for radius, why in (("0", "kind"), ("-1", "kind"), ("-1/2", "kind"), ("1/999999", None), ("999999", None)):
            self.last_is(why, "ball b 0 0 0 " + radius)
        for way, why in (("0 0 0", "kind"), ("1 0 0", None), ("0 -1 0", None), ("0 0 1/999999", None)):
            for bound in ("0", "1", "-1/2"):
                self.last_is(why, f"half b {way} {bound}")

    def test_turns(self):
        for pair in ("1 0", "0 1", "-1 0", "0 -1", "3/5 4/5", "-3/5 4/5", "4/5 -3/5", "5/13 12/13", "-20/29 -21/29"):
            self.last_is(None, BOX, "turn b a y " + pair)
        for pair in ("0 0", "1 1", "1 -1", "1/2 1/2", "3/5 3/5", "4/5 4/5", "2 0", "0 2", "5/13 4/5", "3 4", "3/5 -3/5"):
            self.last_is("kind", BOX, "turn b a y " + pair)

    def test_looks_in_one_plane(self):
        for rest in (
            "0 0 0  0 0 0  1 0 0  0 1 0", "0 0 1  5 5 1  1 0 0  0 1 0", "0 0 0  0 0 1  1 0 0  2 0 0",
            "0 0 0  0 0 1  0 0 0  0 1 0", "0 0 0  0 0 1  1 0 0  0 0 0", "0 0 0  1 1 0  1 0 0  0 1 0",
            "1 2 3  1 2 3  1 0 0  0 1 0", "0 0 0  1 2 3  1 1 1  2 3 4", "0 0 0  1/2 1/3 1/4  1 0 0  1/2 1/3 1/4",
        ):
            self.last_is("kind", f"look b {rest} 3 4")
        for rest in (
            "0 0 0  0 0 1  1 0 0  0 1 0", "0 0 1  5 5 0  1 0 0  0 1 0", "0 0 0  0 0 -1/9  1 0 0  0 1 0",
            "1 2 3  1 2 4  1 1 0  1 -1 0", "0 0 0  1 2 3  1 1 1  2 3 5", "5 5 5  5 5 6  1 0 0  0 1 0",
        ):
            self.last_is(None, f"look b {rest} 3 4")


    def test_looks_by_their_determinant(self):
        source = random.Random(21)
        flat_ones = 0
        for turn in range(600):
            corner, across, down = ([source.randint(-1, 1) for place in range(3)] for way in range(3))
            (a, b, c), (d, e, f), (g, h, i) = corner, across, down
            volume = a * e * i + b * f * g + c * d * h - c * e * g - b * d * i - a * f * h
            flat_ones += volume == 0
            place = [source.randint(-3, 3) for axis in range(3)]
            numbers = place + [one + other for one, other in zip(place, corner)] + across + down
            self.last_is("kind" if volume == 0 else None, "look b " + " ".join(map(str, numbers)) + " 3 4")
        self.assertTrue(100 < flat_ones < 500)


class Many(FaultCase):
    def test_40_and_41_bodies(self):
        rows = [f"ball {name} 0 0 0 1" for name in numbered_names(43)]
        self.finds(lines(*rows[:40]))
        self.finds(lines(*rows[:41]), (40, "many"))
        self.finds(lines(*rows), (40, "many"), (41, "many"), (42, "many"))
        self.last_is("many", *rows[:40], "join b cc cd")
        self.finds(lines(*rows[:41], "slide b " + numbered_names(41)[40] + " 1 2 3"), (40, "many"), (41, "none"))
        self.finds(lines(*rows[:41], "show " + numbered_names(41)[40] + " red"), (40, "many"), (41, "none"))
        self.last_is("twice", *rows[:40], "ball cc 0 0 0 1")
        self.last_is("kind", *rows[:40], "ball b 0 0 0 0")

    def test_8_and_9_things(self):
        names = numbered_names(10)
        rows = [f"ball {name} 0 0 0 1" for name in names]
        shown = [f"show {name} red" for name in names]
        self.finds(lines(*rows, *shown[:8]))
        self.finds(lines(*rows, *shown), (18, "many"), (19, "many"))
        self.last_is("twice", *rows, *shown[:8], shown[0])
        self.last_is("none", *rows, *shown[:8], "show b red")

    def test_3_and_4_lamps(self):
        rows = [f"lamp {name} 1 2 3" for name in numbered_names(5)]
        self.finds(lines(*rows[:3]))
        self.finds(lines(*rows), (3, "many"), (4, "many"))
        self.last_is("twice", *rows[:3], rows[1])

    def test_4_and_5_looks(self):
        rows = [RIGHT["look"].replace("look b", "look " + name) for name in numbered_names(6)]
        self.finds(lines(*rows[:4]))
        self.finds(lines(*rows), (4, "many"), (5, "many"))
        self.last_is("twice", *rows[:4], rows[3])
        self.last_is("kind", *rows[:4], "look b 0 0 0 0 0 0 1 0 0 0 1 0 3 4")

    def test_all_at_their_bounds_at_once(self):
        names = numbered_names(40)
        rows = [f"ball {name} 0 0 0 1" for name in names] + [f"show {name} red" for name in names[:8]]
        rows += [f"lamp {name} 1 2 3" for name in names[:3]]
        rows += [RIGHT["look"].replace("look b", "look " + name) for name in names[:4]]
        self.finds(lines(*rows))

    def test_8_and_9_leaves(self):
        rows = [BOX, "join b a a", "cut c b b", "meet d c c", "join e d a"]
        self.last_is(None, *rows, "show d red")
        self.last_is("many", *rows, "show e red")
        self.last_is(None, *rows, "join f c b", "join g f a", "show g red")
        self.last_is(None, *rows, "turn f d x 1 0", "slide g f 1 1 1", "show g red")
        self.last_is("many", *rows, "turn f e x 1 0", "slide g f 1 1 1", "show g red")

    def test_a_body_joined_with_itself_thirty_times(self):
        names = numbered_names(31)
        rows = [f"ball {names[0]} 0 0 0 1"]
        rows += [f"join {later} {name} {name}" for name, later in zip(names, names[1:])]
        self.finds(lines(*rows))
        self.last_is("many", *rows, f"show {names[30]} red")
        self.last_is("many", *rows, f"show {names[4]} red")
        self.last_is(None, *rows, f"show {names[3]} red")

    def test_what_cannot_be_shown_takes_no_place(self):
        names = numbered_names(8)
        rows = [f"ball {name} 0 0 0 1" for name in names] + ["join a cc cd", "join b a a", "join c b b", "join d c a"]
        shown = [f"show {name} red" for name in names]
        self.finds(lines(*rows, "show d red", *shown, "show d red", "show a red"), (12, "many"), (21, "many"), (22, "many"))
        self.finds(lines(*rows, "show d red", "show d red", *shown), (12, "many"), (13, "many"))


class Order(FaultCase):
    def test_the_first_reason_of_two(self):
        many = [f"ball {name} 0 0 0 1" for name in numbered_names(40)]
        for rows, why in (
            # long ahead of word, name, number
            ((BOX, "zz".ljust(201)), "long"), ((BOX, "lamp B 1 2 3\t"), "long"), ((BOX, BOX.ljust(201)), "long"),
            # word ahead of name, axis, number, none, twice
            ((BOX, "box A 0 0 0 1 1 1 1"), "word"), ((BOX, "turn b a w 01"), "word"), ((BOX, "join a c"), "word"),
            ((BOX, "show A red mirrors"), "word"), ((BOX, "zz A 01"), "word"),
            # name ahead of axis and number, wherever it stands
            ((BOX, "turn b A w 1 0"), "name"), ((BOX, "turn B a w 01 01"), "name"), ((BOX, "box A 01 0 0 1 1 1"), "name"),
            ((BOX, "show a Red move 01 0 0"), "name"), ((BOX, "slide B c 01 0 0"), "name"), ((BOX, "join a c D"), "name"),
            ((BOX, "lamp 1 01 0 0"), "name"), ((BOX, "look 1" + " 01" * 14), "name"), ((BOX, "turn c A x 1 1"), "name"),
            # axis ahead of number, none, twice, kind
            ((BOX, "turn b a w 01 0"), "axis"), ((BOX, "turn b c w 1 0"), "axis"), ((BOX, "turn a a w 1 0"), "axis"),
            ((BOX, "turn b a w 1 1"), "axis"),
            # number ahead of none, twice, kind, many
            ((BOX, "slide b c 01 0 0"), "number"), ((BOX, "box a 0 0 0 1 1 01"), "number"),
            ((BOX, "turn b a x 1 01"), "number"), ((BOX, "ball b 0 0 0 -0"), "number"),
            ((*many, "ball b 0 0 0 00"), "number"), ((BOX, "show c red move 01 0 0"), "number"),
            ((BOX, "look b 0 0 0 0 0 0 0 0 0 0 0 0 0 1"), "number"),
            # none ahead of twice, kind, many
            ((BOX, "join a a c"), "none"), ((BOX, "slide a c 1 2 3"), "none"), ((BOX, "turn a c x 1 1"), "none"),
            ((BOX, "turn b c x 1 1"), "none"), ((*many, "join b c c"), "none"), ((*many, "join cc cc b"), "none"),
            # twice ahead of kind, many
            ((BOX, "box a 0 0 0 0 0 0"), "twice"), ((BOX, "turn a a x 1 1"), "twice"), ((BOX, "half a 0 0 0 1"), "twice"),
            ((*many, "ball cc 0 0 0 0"), "twice"), ((*many, "ball cc 0 0 0 1"), "twice"),
            ((RIGHT["look"], "look b 0 0 0 0 0 0 1 0 0 0 1 0 1 1"), "twice"),
            # kind ahead of many
            ((*many, "box b 0 0 0 0 1 1"), "kind"), ((*many, "half b 0 0 0 1"), "kind"), ((*many, "turn b cc x 1 1"), "kind"),
        ):
            self.last_is(why, *rows)

    def test_lines_rise_each_once(self):
        text = lines(
            "zz", "", "# fine", "box A 0 0 0 1 1 1", BOX, "turn b a w 01 01", "lamp l 1 2", "lamp l 1 2 3", "lamp l 1 2 3",
            "show c red", "show a red", "show a red", "ball d 0 0 0 0", "#\t", "join a a a",
        )
        self.finds(
            text, (0, "word"), (3, "name"), (5, "axis"), (6, "word"), (8, "twice"), (9, "none"), (11, "twice"),
            (12, "kind"), (13, "long"), (14, "twice"),
        )

    def test_lines_are_numbered_with_those_that_count_for_nothing(self):
        self.finds(lines("", "#", "   ", "zz", "", "yy"), (3, "word"), (5, "word"))


class Calls(Exactly):
    def test_nothing_is_changed_and_the_same_is_told(self):
        for thing in anything() + texts() + [None]:
            self.changes_nothing(faults, thing)

    def test_name_and_arguments(self):
        self.assertEqual(list(inspect.signature(faults).parameters), ["text"])
        self.assertEqual((reading.faults.__name__, reading.faults.__module__), ("faults", "scenetongue.reading"))


if __name__ == "__main__":
    unittest.main()
