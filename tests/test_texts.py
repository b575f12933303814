"""Promises 39 and 40: programs, lots and layouts as texts, and read back."""

import copy
import re
import unittest

from leanbundle.errors import BadLayout, BadLot, BadProgram, BadText
from leanbundle.packs import split_layout
from leanbundle.programs import all_rows, is_layout, is_lot, is_program
from leanbundle.texts import read_layout, read_lot, read_program, show_layout, show_lot, show_program
from tests.chance import drawn_layout, drawn_lot, drawn_program, draws
from tests.samples import (EXAMPLE, FULL, FULL_LAYOUT, FULL_LOT, OUT, STRANGE, Same, Touchy, give, hand, late, load,
                           program_of, show, spoilt, with_odd_objects)

LEAST = program_of([])
GREATEST = program_of(
    [give("a", (3, "d"), risky=True), hand("b", 3, "c"), show((0, "a"), (3, "d"), risky=True), OUT, load(3)],
    [late("c", -1, (1, "a"), (2, "b")), late("d", 3), OUT, give("d")], [show((2, "c")), load(0)], [load(1)],
    entries=(1, 2, 3), opens=[(0, "a"), (0, "d"), (2, "b"), (3, "c")], marks=(True, False, True, False))

EXAMPLE_TEXT = "entries 01\nopen -\npart\ngive a -\nload 1\npart\nshow 0.a"
GREATEST_TEXT = (
    "entries 123\nopen 0.a,0.d,2.b,3.c\npart plain\ngive a 3.d !\npass b 3.c\nshow 0.a,3.d !\nout\nload 3\npart\n"
    "late c - 1.a,2.b\nlate d 3 -\nout\ngive d -\npart plain\nshow 2.c\nload 0\npart\nload 1")
FULL_TEXT = (
    "entries 012\nopen 0.a,0.c,1.a,1.b\npart plain\ngive a - !\ngive b 0.a\npass c 1.a\nshow 0.c,0.b\nout\npart\n"
    "late a 1 0.b,0.b\nlate b - -\nshow - !\nload 1\npart plain")

NO_TEXTS = [thing for thing in STRANGE if not isinstance(thing, str)] + [
    Same(), Touchy(), [EXAMPLE_TEXT], EXAMPLE_TEXT.encode(), EXAMPLE_TEXT.split("\n"), (EXAMPLE_TEXT,)]

NEED = r"[0-9]\.[abcd]"


def needs(most):
    return rf"(?:-|{NEED}(?:,{NEED}){{0,{most - 1}}})"


ROWS = [r"load [0-9]", rf"give [abcd] {needs(1)}(?: !)?", rf"pass [abcd] {NEED}", rf"show {needs(2)}(?: !)?", r"out",
        rf"late [abcd] [0-9-] {needs(2)}"]


def is_bad_line(lines, at):
    """Whether a line is the first one, or a further one, that promise 40 calls bad, whatever parts there are."""
    line = lines[at]
    if at == 0:
        return not re.fullmatch("entries [0-9]{1,3}", line) or list(line[8:]) != sorted(set(line[8:]))
    if at == 1:
        names = line[5:].split(",")
        return not re.fullmatch("open " + needs(4), line) or names != sorted(set(names))
    if line in ("part", "part plain"):
        return len([other for other in lines[2:at + 1] if other in ("part", "part plain")]) > 4
    heads = [other for other in range(2, at) if lines[other] in ("part", "part plain")]
    if not heads or not any(re.fullmatch(row, line) for row in ROWS):
        return True
    return at - heads[-1] > 5 or at - 1 - len(heads) > 12 or lines[2:at + 1].count("out") > 2


def bad_line(text):
    """The line that read_program tells of, None if it reads the text: promise 40 told with patterns."""
    lines = text.split("\n")
    for at in range(len(lines)):
        if is_bad_line(lines, at):
            return at
    if len(lines) < 3:
        return len(lines)
    many = len([line for line in lines if line in ("part", "part plain")])
    for at, line in enumerate(lines):
        if any(int(digit) >= many for digit in re.findall("[0-9]", line)):
            return at
    return None


class TextsCase(unittest.TestCase):
    def bad(self, line, call, *told):
        with self.assertRaises(BadText) as caught:
            call(*told)
        self.assertEqual(caught.exception.line, line, told)
        self.assertIs(caught.exception.line.__class__, int)

    def bad_program(self, line, *lines):
        """These lines, joined, tell of this one."""
        text = "\n".join(lines)
        self.assertEqual(bad_line(text), line, text)
        self.bad(line, read_program, text)


class ShowTest(TextsCase):
    def test_programs(self):
        self.assertEqual(show_program(LEAST), "entries 0\nopen -\npart")
        self.assertEqual(show_program(EXAMPLE), EXAMPLE_TEXT)
        self.assertEqual(show_program(GREATEST), GREATEST_TEXT)
        self.assertEqual(show_program(FULL), FULL_TEXT)

    def test_each_row(self):
        rows = {"load 0": load(0), "give a -": give("a"), "give b 0.c": give("b", (0, "c")),
                "give c - !": give("c", risky=True), "give d 0.d !": give("d", (0, "d"), risky=True),
                "pass a 0.b": hand("a", 0, "b"), "show -": show(), "show 0.a": show((0, "a")),
                "show 0.b,0.a": show((0, "b"), (0, "a")), "show - !": show(risky=True),
                "show 0.a,0.a !": show((0, "a"), (0, "a"), risky=True), "out": OUT, "late a - -": late("a", -1),
                "late b 0 -": late("b", 0), "late c - 0.a": late("c", -1, (0, "a")),
                "late d 0 0.d,0.c": late("d", 0, (0, "d"), (0, "c"))}
        for text, row in rows.items():
            self.assertEqual(show_program(program_of([row])), "entries 0\nopen -\npart\n" + text)
            self.assertEqual(read_program("entries 0\nopen -\npart\n" + text), program_of([row]))

    def test_lots(self):
        self.assertEqual(show_lot(FULL, ()), "")
        self.assertEqual(show_lot(FULL, ((0, 1),)), "0:1")
        self.assertEqual(show_lot(FULL, FULL_LOT), "0:0 0:3 1:0 1:1")

    def test_layouts(self):
        self.assertEqual(show_layout(EXAMPLE, split_layout(EXAMPLE)), "pack 0:0 0:1\npack 1:0\ndoor 0 01\ndoor 1 1")
        self.assertEqual(show_layout(FULL, FULL_LAYOUT), "pack\npack 0:1 0:0\npack 1:1\ndoor 0 10\ndoor 1 -\ndoor 2 021")
        self.assertEqual(show_layout(LEAST, ((), ((0, ()),))), "door 0 -")

    def test_errors(self):
        for thing in STRANGE + [list(EXAMPLE)] + [thing for _, thing in spoilt(EXAMPLE) + with_odd_objects(EXAMPLE)]:
            self.assertRaises(BadProgram, show_program, thing)
            self.assertRaises(BadProgram, show_lot, thing, None)
            self.assertRaises(BadProgram, show_layout, thing, None)
        for thing in [[], [(0, 0)], ((0, 1), (0, 0)), ((0, 9),), None, "0:0", ((False, 0),), Same(), Touchy()]:
            self.assertRaises(BadLot, show_lot, EXAMPLE, thing)
            self.assertRaises(BadLayout, show_layout, EXAMPLE, thing)


class ThereAndBackTest(TextsCase):
    def test_the_least_and_the_greatest(self):
        for program in (LEAST, EXAMPLE, FULL, GREATEST):
            self.assertEqual(read_program(show_program(program)), program)
        for program, lot in ((LEAST, ()), (FULL, FULL_LOT), (GREATEST, ()), (GREATEST, tuple(all_rows(GREATEST)))):
            self.assertEqual(read_lot(program, show_lot(program, lot)), lot)
        eight = tuple((place,) for place in all_rows(GREATEST)[:8])
        for program, layout in ((LEAST, ((), ((0, ()),))), (FULL, FULL_LAYOUT), (LEAST, (((),) * 8, ((0, (7, 0, 3)),))),
                                (GREATEST, (eight, tuple((door, tuple(range(8))) for door in (1, 2, 3)))),
                                (GREATEST, ((tuple(all_rows(GREATEST)),), ((1, (0,)), (2, ()), (3, ()))))):
            self.assertTrue(is_layout(program, layout))
            self.assertEqual(read_layout(program, show_layout(program, layout)), layout)

    def test_drawn(self):
        for draw in draws(400):
            program = drawn_program(draw)
            lot, layout = drawn_lot(draw, program), drawn_layout(draw, program)
            self.assertEqual(read_program(show_program(program)), program)
            self.assertEqual(read_lot(program, show_lot(program, lot)), lot)
            self.assertEqual(read_layout(program, show_layout(program, layout)), layout)
            self.assertIsNone(bad_line(show_program(program)))

    def test_the_kinds_of_what_is_read(self):
        for told in (read_program(FULL_TEXT), read_lot(FULL, "0:0"), read_lot(FULL, ""), read_layout(LEAST, "door 0 -")):
            self.assertIs(told.__class__, tuple)
        self.assertTrue(is_program(read_program(GREATEST_TEXT)))


class ReadProgramTest(TextsCase):
    HEAD = ("entries 0", "open -", "part")

    def test_no_text(self):
        for thing in NO_TEXTS:
            self.bad(0, read_program, thing)

    def test_the_empty_text_and_empty_lines(self):
        self.bad_program(0, "")
        self.bad_program(0, "", "entries 0", "open -", "part")
        self.bad_program(1, "entries 0", "")
        self.bad_program(1, "entries 0", "", "open -", "part")
        self.bad_program(2, "entries 0", "open -", "")
        self.bad_program(3, *self.HEAD, "")
        self.bad_program(4, *self.HEAD, "out", "")
        self.bad_program(4, *self.HEAD, "out", "", "out")

    def test_fewer_than_three_lines(self):
        self.bad_program(1, "entries 0")
        self.bad_program(2, "entries 0", "open -")
        self.bad_program(2, "entries 012", "open 0.a,1.b")
        # A bad line goes first, and the number of lines ahead of parts that do not come.
        self.bad_program(0, "entries 10")
        self.bad_program(0, "entry 0", "open -")
        self.bad_program(1, "entries 0", "open 0.b,0.a")
        self.bad_program(1, "entries 9")
        self.bad_program(2, "entries 9", "open 8.a")

    def test_entries(self):
        for line in ("entries", "entries ", "entries 00", "entries 10", "entries 0123", "entries 0 1", "entries 0,1",
                     "entries -", "entries a", " entries 0", "entries  0", "entries 0 ", "Entries 0", "entry 0",
                     "entries -1", "entries 011", "open -", "part"):
            self.bad_program(0, line, "open -", "part", "part", "part", "part")

    def test_open_names(self):
        for line in ("open", "open ", "open 0.a,", "open ,0.a", "open 0.b,0.a", "open 0.a,0.a", "open 1.a,0.b", "open 0.e",
                     "open 0a", "open 0.a 0.b", "open 0.a, 0.b", "open -,0.a", "open 0.a,-", "open --", "open a.0",
                     "open 00.a", "open 0.ab", "open 0.", "open .a", "open  -", "open - ", "opens -", "Open -",
                     "open 0.a,0.b,0.c,0.d,1.a", "open 0:a", "part"):
            self.bad_program(1, "entries 0", line, "part", "part")
        self.assertEqual(read_program("entries 0\nopen 0.a,0.b,0.c,0.d\npart")[3],
                         ((0, "a"), (0, "b"), (0, "c"), (0, "d")))

    def test_rows_that_are_not_of_the_form(self):
        for line in ("load", "load ", "load 00", "load a", "load -", "load -1", "load 0 0", "load  0", "load 0 ", " load 0",
                     "Load 0", "give", "give a", "give a ", "give - a", "give e -", "give ab -", "give a - ! !", "give a -!",
                     "give a !", "give ! -", "give a -  !", "give a - ?", "give  a -", "give a 0.a,", "give a 0.a 0.b",
                     "give 0 -", "give a -,-", "give -", "give 0.a", "give - !", "show a -", "show a 0.a",
                     "show a - !", "show - -", "late a - - -", "pass a 0.a 0.a", "load 0.a", "give a 0:0", "show 0:0", "pass a", "pass a 0", "pass a 0.e", "pass a -", "pass a 0.a !", "pass e 0.a",
                     "pass a 0.a,0.b", "pass a 0a", "pass 0.a a", "show", "show ", "show !", "show - ! ", "show 0.a,,0.b",
                     "show a.0", "show 0.a !!", "show 0.a, 0.b", "out ", "out !", "outs", "o", " out", "late a", "late a -",
                     "late a - ", "late a 0.b -", "late a -1 -", "late a - - !", "late e - -", "late a x -", "late - - -",
                     "late a 00 -", "late a  - -", "part ", "part plain ", "part  plain", "Part", "parts", "part 0", "plain",
                     "partplain", "part-plain", "entries 0", "open -", "!", "-", "door 0 -"):
            self.bad_program(3, *self.HEAD, line)
            self.bad_program(5, *self.HEAD, "out", "show 0.a", line, "out")

    def test_too_many_needs(self):
        self.bad_program(3, *self.HEAD, "give a 0.a,0.b")
        self.bad_program(3, *self.HEAD, "give a 0.a,0.a !")
        self.bad_program(3, *self.HEAD, "show 0.a,0.b,0.c")
        self.bad_program(3, *self.HEAD, "show 0.a,0.b,0.c !")
        self.bad_program(3, *self.HEAD, "late a - 0.a,0.b,0.c")

    def test_a_row_before_the_first_part(self):
        for row in ("out", "load 0", "show -", "give a -", "pass a 0.a", "late a - -"):
            self.bad_program(2, "entries 0", "open -", row)
            self.bad_program(2, "entries 0", "open -", row, "part")

    def test_too_many_rows(self):
        self.bad_program(8, *self.HEAD, *["load 0"] * 6)
        self.bad_program(8, *self.HEAD, *["load 0"] * 7)
        self.bad_program(14, *self.HEAD, *["load 0"] * 5, "part", *["load 0"] * 6)
        parts = ["part"] + ["load 0"] * 5 + ["part"] + ["show -"] * 5 + ["part"] + ["load 1"] * 2
        self.assertTrue(is_program(read_program("\n".join(["entries 0", "open -"] + parts))))
        self.bad_program(17, "entries 0", "open -", *parts, "load 0")
        self.bad_program(18, "entries 0", "open -", *parts, "part", "load 0")

    def test_too_many_outs(self):
        self.bad_program(5, *self.HEAD, "out", "out", "out")
        self.bad_program(6, *self.HEAD, "out", "show -", "out", "out", "out")
        self.bad_program(7, *self.HEAD, "out", "part", "out", "part", "out")
        self.assertTrue(is_program(read_program("\n".join(self.HEAD) + "\nout\npart\nout")))

    def test_too_many_parts(self):
        self.assertTrue(is_program(read_program("entries 3\nopen -" + "\npart" * 4)))
        self.bad_program(6, "entries 0", "open -", *["part"] * 5)
        self.bad_program(6, "entries 0", "open -", *["part plain"] * 5, "out", "oh")

    def test_parts_that_do_not_come(self):
        self.bad_program(0, "entries 1", "open 1.a", "part")
        self.bad_program(0, "entries 02", "open -", "part", "part")
        self.bad_program(1, "entries 0", "open 0.a,1.a", "part", "load 1")
        for row in ("load 1", "give a 1.a", "give a 1.a !", "pass a 1.a", "show 1.a", "show 0.a,1.a", "show 1.a,0.a !",
                    "late a 1 -", "late a - 1.a", "late a 0 0.a,9.a"):
            self.bad_program(4, *self.HEAD, "out", row)
            self.bad_program(4, *self.HEAD, "out", row, "out", "load 5")
            self.bad_program(5, *self.HEAD, "out", "part", row.replace("1.a", "2.a").replace(" 1", " 2"))
        # A part may come behind the line that names it.
        self.assertTrue(is_program(read_program("entries 3\nopen 3.a\npart\nload 3\npart\npart\npart")))

    def test_other_faults_go_first(self):
        self.bad_program(4, "entries 7", "open 8.a", "part", "load 9", "oh")
        self.bad_program(4, "entries 7", "open 8.a", "part", "load 9", "give a 0.a,0.b")
        self.bad_program(8, "entries 7", "open -", "part", *["load 9"] * 6)
        self.bad_program(1, "entries 7", "open 0.b,0.a", "part")
        self.bad_program(0, "entries 70", "open 0.b,0.a", "oh")

    def test_a_line_feed_at_the_end(self):
        for text in ("entries 0", "entries 0\nopen -", EXAMPLE_TEXT, GREATEST_TEXT):
            self.bad(len(text.split("\n")), read_program, text + "\n")
            self.bad(0, read_program, "\n" + text)

    def test_spoilt_texts(self):
        found = {}
        for draw in draws(300):
            text = show_program(drawn_program(draw))
            for _ in range(12):
                spoiled = self.spoil(draw, text)
                line = bad_line(spoiled)
                found[line] = found.get(line, 0) + 1
                if line is None:
                    self.assertEqual(show_program(read_program(spoiled)), spoiled)
                else:
                    self.bad(line, read_program, spoiled)
        self.assertGreater(found[None], 100)
        self.assertGreater(min(found[line] for line in range(10)), 20)

    def spoil(self, draw, text):
        at = draw.randrange(len(text))
        lines = text.split("\n")
        row = draw.randrange(len(lines))
        kind = draw.randrange(6)
        if kind == 0:
            return text[:at] + text[at + 1:]
        if kind == 1:
            return text[:at] + draw.choice("0123456789abcd.,-! \n") + text[at:]
        if kind == 2:
            return text[:at] + draw.choice("0123abcd5.,- ") + text[at + 1:]
        if kind == 3:
            lines.insert(row, draw.choice(lines[2:] + ["out", "part", "load 3"]))
        elif kind == 4:
            lines.insert(draw.randrange(len(lines)), lines.pop(row))
        else:
            del lines[row]
        return "\n".join(lines)


class ReadLotTest(TextsCase):
    def test_texts_that_are_none(self):
        for text in (" ", "0:0 ", " 0:0", "0:0  0:1", "0:1 0:0", "0:0 0:0", "0:5", "3:0", "2:0", "0.0", "00", "0:", ":0", "0",
                     "0:0,0:1", "0:0\n0:1", "0:0\n", "\n", "-", "nothing", "0:00", "00:0", "-1:0", "0:-1", "0:a", "a:0",
                     "0:0:0", "(0, 0)"):
            self.bad(0, read_lot, FULL, text)
        for thing in NO_TEXTS:
            self.bad(0, read_lot, FULL, thing)

    def test_texts_of_lots(self):
        self.assertEqual(read_lot(FULL, ""), ())
        self.assertEqual(read_lot(FULL, "1:3"), ((1, 3),))
        self.assertEqual(read_lot(FULL, "0:4 1:0"), ((0, 4), (1, 0)))

    def test_spoilt_texts(self):
        for draw in draws(200):
            program = drawn_program(draw)
            text = show_lot(program, drawn_lot(draw, program))
            for _ in range(8):
                at = draw.randrange(len(text) + 1)
                spoiled = text[:at] + draw.choice(["", "0", "1", ":", " ", "4 "]) + text[at + draw.randrange(2):]
                words = spoiled.split(" ") if spoiled else []
                good = all(re.fullmatch("[0-9]:[0-9]", word) for word in words)
                lot = tuple((int(word[0]), int(word[2])) for word in words) if good else None
                if good and is_lot(program, lot):
                    self.assertEqual(read_lot(program, spoiled), lot)
                else:
                    self.bad(0, read_lot, program, spoiled)


class ReadLayoutTest(TextsCase):
    GOOD = "pack 0:0 0:1\npack 1:0\ndoor 0 01\ndoor 1 1"

    def test_texts_of_layouts(self):
        self.assertEqual(read_layout(EXAMPLE, self.GOOD), split_layout(EXAMPLE))
        self.assertEqual(read_layout(EXAMPLE, "door 0 -\ndoor 1 -"), ((), ((0, ()), (1, ()))))
        self.assertEqual(read_layout(EXAMPLE, "pack\npack\ndoor 0 10\ndoor 1 -"), (((), ()), ((0, (1, 0)), (1, ()))))
        self.assertEqual(read_layout(EXAMPLE, "pack 1:0 0:0\ndoor 0 0\ndoor 1 -"),
                         ((((1, 0), (0, 0)),), ((0, (0,)), (1, ()))))

    def test_texts_that_are_none(self):
        for text in ("", "\n", self.GOOD + "\n", "\n" + self.GOOD, self.GOOD.replace("\n", "\n\n", 1),
                     "door 0 01\ndoor 1 1\npack 0:0 0:1\npack 1:0", "pack 0:0 0:1\ndoor 0 01\npack 1:0\ndoor 1 1",
                     self.GOOD.replace("pack 1:0", "pack 1:0 "), self.GOOD.replace("pack 1:0", "pack  1:0"),
                     self.GOOD.replace("pack 1:0", "pack "), self.GOOD.replace("pack 1:0", "packs"),
                     self.GOOD.replace("pack 1:0", "pack1:0"), self.GOOD.replace("pack 1:0", "pack 1:1"),
                     self.GOOD.replace("pack 1:0", "pack 0:0"), self.GOOD.replace("pack 1:0", "pack 1:0 1:0"),
                     self.GOOD.replace("pack 1:0", "pack -"), self.GOOD.replace("pack 1:0", "pack 1.0"),
                     self.GOOD.replace("door 0", "door 2"), self.GOOD.replace("door 0 01\n", ""),
                     self.GOOD.replace("door 1 1", "door 1 2"), self.GOOD.replace("door 1 1", "door 1 11"),
                     self.GOOD.replace("door 1 1", "door 1 "), self.GOOD.replace("door 1 1", "door 1"),
                     self.GOOD.replace("door 1 1", "door 1 1 0"), self.GOOD.replace("door 1 1", "door 1 0,1"),
                     self.GOOD.replace("door 1 1", "door 1 -1"), self.GOOD.replace("door 1 1", "door 1  1"),
                     self.GOOD.replace("door 1 1", "doors 1 1"), self.GOOD.replace("door 1 1", "door - 1"),
                     self.GOOD.replace("door 1 1", "door 1 --"), self.GOOD.replace("door 1 1", "door 01 1"),
                     "door 1 -\ndoor 0 -", "door 0 -\ndoor 1 -\ndoor 1 -", self.GOOD.replace("\n", " / "),
                     "pack\n" * 9 + "door 0 -\ndoor 1 -", "oh\n" + self.GOOD):
            self.bad(0, read_layout, EXAMPLE, text)
        for thing in NO_TEXTS:
            self.bad(0, read_layout, EXAMPLE, thing)

    def test_eight_packs(self):
        self.assertEqual(len(read_layout(EXAMPLE, "pack\n" * 8 + "door 0 76543210\ndoor 1 -")[0]), 8)

    def test_spoilt_texts(self):
        for draw in draws(150):
            program = drawn_program(draw)
            text = show_layout(program, drawn_layout(draw, program))
            for _ in range(8):
                at = draw.randrange(len(text) + 1)
                spoiled = text[:at] + draw.choice(["", "0", "1", ":", " ", "\n", "-"]) + text[at + draw.randrange(2):]
                layout = self.read(spoiled)
                if layout is not None and is_layout(program, layout):
                    self.assertEqual(read_layout(program, spoiled), layout)
                else:
                    self.bad(0, read_layout, program, spoiled)

    def read(self, text):
        if not re.fullmatch(r"(pack( [0-9]:[0-9])*\n)*door [0-9] (-|[0-9]+)(\ndoor [0-9] (-|[0-9]+))*", text):
            return None
        packs = [line for line in text.split("\n") if line.startswith("pack")]
        doors = [line.split(" ") for line in text.split("\n") if line.startswith("door")]
        return (tuple(tuple((int(place[0]), int(place[2])) for place in pack.split(" ")[1:]) for pack in packs),
                tuple((int(door), tuple(int(digit) for digit in numbers if digit != "-")) for _, door, numbers in doors))


class ErrorsTest(TextsCase):
    def test_bad_program_goes_ahead_of_bad_text(self):
        for thing in STRANGE + [list(EXAMPLE)] + [thing for _, thing in spoilt(EXAMPLE)]:
            for text in ("", "0:0", None, "oh"):
                self.assertRaises(BadProgram, read_lot, thing, text)
                self.assertRaises(BadProgram, read_layout, thing, text)

    def test_arguments_by_name(self):
        program = copy.deepcopy(FULL)
        self.assertEqual(read_program(text=FULL_TEXT), FULL)
        self.assertEqual(show_program(program=program), FULL_TEXT)
        self.assertEqual(read_lot(text="0:1", program=program), ((0, 1),))
        self.assertEqual(show_lot(lot=((0, 1),), program=program), "0:1")
        self.assertEqual(read_layout(text=show_layout(layout=FULL_LAYOUT, program=program), program=program), FULL_LAYOUT)
        self.assertEqual(program, FULL)


if __name__ == "__main__":
    unittest.main()
