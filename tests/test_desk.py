"""Promises 41 and 42: a desk that answers rows with texts."""

import unittest

from leanbundle.answers import answer_to
from leanbundle.audiences import least_audiences
from leanbundle.desk import Desk
from leanbundle.errors import (BadCommand, BadOptions, BadPart, BadPlace, BadStep, BadText, BundleError, ManyDoors,
                               NothingToUndo, TooMany)
from leanbundle.live import Bundle
from leanbundle.lots import greatest_lots
from leanbundle.packs import flat_layout, split_layout
from leanbundle.programs import all_rows, doors_of
from leanbundle.texts import show_layout, show_program
from leanbundle.tool import false_marks, reason_for
from tests.chance import drawn_program, drawn_small_program, draws
from tests.samples import (EXAMPLE, FULL, OUT, STRANGE, Same, Touchy, give, hand, late, load, program_of, show)

FIRST = "entries 0 / open - / part"

# All that a desk answers without changing anything.
LOOKS = ["safe", "lot", "greatest", "marks", "who", "flat", "split", "show", "why 0:0 -", "why 0:0 loads,marks"]

ROWS = program_of([give("a"), OUT, give("b", (0, "a"), risky=True), show((0, "b"))],
                  [late("c", 2, (0, "a")), give("d", (1, "c"))], [show()], entries=(0, 1),
                  opens=[(0, "a"), (0, "b"), (1, "c"), (1, "d")])


def row_of(program):
    return "program " + show_program(program).replace("\n", " / ")


def desk_of(program):
    desk = Desk()
    desk.say(row_of(program))
    return desk


class DeskCase(unittest.TestCase):
    def says(self, desk, *rows):
        """Each row, followed by its answer."""
        for row, answer in zip(rows[::2], rows[1::2]):
            self.assertEqual(desk.say(row), answer, row)

    def raises(self, error, desk, *rows):
        for row in rows:
            before = self.looks(desk)
            with self.assertRaises(error) as caught:
                desk.say(row)
            self.assertIs(caught.exception.__class__, error, row)
            self.assertEqual(self.looks(desk), before, row)

    def looks(self, desk):
        return [self.look(desk, row) for row in ("show", "lot", "marks", "safe")]

    def look(self, desk, row):
        try:
            return desk.say(row)
        except BundleError as error:
            return error.__class__


class ProgramTest(DeskCase):
    def test_at_first(self):
        self.says(Desk(), "show", FIRST, "lot", "nothing", "safe", "yes", "greatest", "nothing", "marks", "none",
                  "who", "nobody", "flat", "door 0 -", "split", "door 0 -", "load 0", "nothing", "back", "nothing",
                  "undo", "ok", "undo", "ok")

    def test_program(self):
        desk = Desk()
        for program in (EXAMPLE, FULL, ROWS, program_of([])):
            self.says(desk, row_of(program), "ok", "show", show_program(program).replace("\n", " / "))

    def test_line_feeds(self):
        desk = Desk()
        self.says(desk, "program " + show_program(EXAMPLE), "ok", "show", row_of(EXAMPLE)[8:])
        self.says(desk, "program entries 0\nopen - / part\npart plain", "ok",
                  "show", "entries 0 / open - / part / part plain")

    def test_bad_text(self):
        desk = desk_of(EXAMPLE)
        for text, line in [("", 0), (" ", 0), ("entries 0", 1), ("entries 0 / open -", 2), ("entries 0 / open - / part / ", 3),
                           (" entries 0 / open - / part", 0), ("entries 0 / open - / part / load 1", 3),
                           ("entries 0 / open - /part", 1), ("entries 0/ open - / part", 0), ("entries 0 / open -  / part", 1),
                           ("entries 0 / open - /  / part", 2), ("entries 0 / open - / / part", 2), ("entries 1 / open - / part", 0),
                           ("entries 0 / open - / part\n", 3), ("entries 0 / open - / out", 2), (" / ", 0), ("oh", 0)]:
            self.raises(BadText, desk, "program " + text)
            with self.assertRaises(BadText) as caught:
                desk.say("program " + text)
            self.assertEqual(caught.exception.line, line, text)
        self.says(desk, "show", row_of(EXAMPLE)[8:])

    def test_a_new_program_begins_anew(self):
        desk = desk_of(EXAMPLE)
        self.says(desk, "leave 0:0", "ok", "load 0", "fail 1:0", row_of(EXAMPLE), "ok", "lot", "nothing", "load 0", "show 1:0")
        self.says(desk, "undo", "ok")
        self.raises(NothingToUndo, desk, "undo")


class BundleTest(DeskCase):
    def test_steps(self):
        desk = desk_of(ROWS)
        self.says(desk, "ask 0.a", "lack", "load 0", "out 0:1", "ask 0.a", "told 0:0", "ask 0.b", "lack", "load 1", "nothing",
                  "ask 1.c", "show 2:0; show 1:0", "ask 1.d", "told 1:1", "back", "show 0:3", "ask 0.b", "told 0:2",
                  "back", "nothing")

    def test_a_failure(self):
        desk = desk_of(ROWS)
        self.says(desk, "fail 0:2", "ok", "load 0", "out 0:1", "back", "fail 0:2", "ask 0.a", "nothing", "fail -", "ok",
                  "load 0", "out 0:1", "back", "show 0:3", "undo", "ok", "undo", "ok", "undo", "ok", "undo", "ok",
                  "load 0", "nothing")
        self.says(desk_of(program_of([OUT, show(), show((0, "a"))])), "load 0", "out 0:0", "back", "show 0:1; fail 0:2")

    def test_the_place_of_the_value(self):
        program = program_of([give("a"), give("b", (0, "a")), hand("c", 0, "b")], opens=[(0, "c")])
        self.says(desk_of(program), "load 0", "nothing", "ask 0.c", "told 0:1")

    def test_leave_and_take(self):
        desk = desk_of(ROWS)
        self.says(desk, "leave 0:1", "ok", "leave 0:0", "ok", "lot", "0:0 0:1", "load 0", "fail 0:2", "take 0:0", "ok",
                  "load 0", "show 0:3", "lot", "0:1", "undo", "ok", "undo", "ok", "lot", "0:0 0:1")

    def test_shake(self):
        desk = desk_of(ROWS)
        self.says(desk, "shake -", "ok", "lot", "nothing", "shake risks", "ok", "lot", "nothing")
        program = program_of([give("a", risky=True), load(1), give("b", (1, "c")), give("d")], [], [show()], marks=(True,) * 3)
        desk = desk_of(program)
        self.says(desk, "shake -", "ok", "lot", "0:3", "shake loads", "ok", "lot", "0:1 0:3", "shake lookups", "ok",
                  "lot", "0:2 0:3", "shake marks", "ok", "lot", "0:0 0:2 0:3 2:0", "shake loads,lookups,marks,risks", "ok",
                  "lot", "0:0 0:1 0:2 0:3 2:0", "undo", "ok", "lot", "0:0 0:2 0:3 2:0")

    def test_marks(self):
        desk = desk_of(program_of([show()], [show()], [show()], entries=(0, 2)))
        self.says(desk, "mark 0", "ok", "show", "entries 02 / open - / part plain / show - / part / show - / part / show -",
                  "marks", "0", "mark 2", "ok", "mark 1", "ok", "marks", "0 2", "unmark 0", "ok", "marks", "2",
                  "undo", "ok", "undo", "ok", "undo", "ok", "undo", "ok", "marks", "none")

    def test_mark_keeps_lot_and_run(self):
        desk = desk_of(EXAMPLE)
        self.says(desk, "leave 0:0", "ok", "load 0", "fail 1:0", "mark 0", "ok", "lot", "0:0", "back", "nothing", "undo", "ok",
                  "undo", "ok", "undo", "ok", "load 1", "fail 1:0")


class LooksTest(DeskCase):
    def test_safe(self):
        desk = desk_of(EXAMPLE)
        self.says(desk, "safe", "yes", "leave 0:1", "ok", "safe", "no 1")
        program = program_of([OUT, OUT, show()], entries=(0,))
        self.says(desk_of(program), "leave 0:2", "ok", "safe", "no 3")

    def test_greatest(self):
        self.says(desk_of(EXAMPLE), "greatest", "nothing")
        program = program_of([give("a"), hand("b", 0, "a"), hand("b", 0, "a"), show((0, "b"))])
        self.says(desk_of(program), "greatest", "0:1 | 0:2")
        program = program_of([give("a"), load(1)], [give("a", (0, "a"))])
        self.says(desk_of(program), "greatest", "0:0 0:1 1:0")
        program = program_of([load(1), load(1), show((1, "a")), give("b")], [give("a")])
        self.says(desk_of(program), "greatest", "0:0 0:3 | 0:1 0:3")
        self.raises(TooMany, desk_of(program_of([give("a")] * 4, [give("a")] * 3)), "greatest")

    def test_why(self):
        program = program_of([give("a"), give("b"), load(1)], [show((0, "a"))])
        desk = desk_of(program)
        self.says(desk, "why 1:0 -", "1:0", "why 0:0 -", "1:0 < 0:0", "why 0:1 -", "gone", "why 0:2 -", "0:2",
                  "why 0:2 loads", "1:0 < 0:2", "why 0:0 loads,lookups,marks,risks", "1:0 < 0:0")

    def test_who(self):
        desk = desk_of(EXAMPLE)
        self.says(desk, "who", "nobody", "leave 0:1", "ok", "who", "load 0", "leave 1:0", "ok", "who", "load 0 | load 1")
        program = program_of([give("a")], [give("b")], entries=(0, 1), opens=[(0, "a"), (1, "b")])
        self.says(desk_of(program), "leave 0:0", "ok", "leave 1:0", "ok",
                  "who", "ask 0.a, load 0 | ask 1.b, load 1")

    def test_flat_and_split(self):
        self.says(desk_of(EXAMPLE), "split", "pack 0:0 0:1 / pack 1:0 / door 0 01 / door 1 1")
        program = program_of([load(1), show()], [show()])
        self.says(desk_of(program), "flat", "pack 0:0 1:0 0:1 / door 0 0", "split", "pack 0:0 1:0 0:1 / door 0 0")
        self.raises(ManyDoors, desk_of(EXAMPLE), "flat")

    def test_drawn(self):
        found = {}
        for draw in draws(250):
            program = drawn_small_program(draw, 9) if draw.random() < 0.8 else drawn_program(draw)
            desk, bundle = desk_of(program), Bundle(program)
            for _ in range(draw.randrange(3)):
                place = draw.choice(all_rows(program))
                if place in bundle:
                    bundle.leave(place)
                    self.says(desk, "leave {}:{}".format(*place), "ok")
            told = {row: self.look(desk, row) for row in LOOKS}
            self.compare(program, bundle.lot(), told)
            for row, answer in told.items():
                kind = answer if answer in ("yes", "nobody", "none", "gone", "nothing", TooMany, ManyDoors) else "other"
                found[row, kind] = found.get((row, kind), 0) + 1
        self.assertGreater(found["greatest", TooMany], 5)
        self.assertGreater(min(found[row, "other"] for row in LOOKS), 5)

    def compare(self, program, lot, told):
        def places(some):
            return " ".join(f"{part}:{index}" for part, index in some) or "nothing"

        word, what = answer_to(program, ("lot", lot))
        self.assertEqual(told["safe"], "yes" if word == "same" else f"no {len(what[0])}")
        self.assertEqual(told["lot"], places(lot))
        if told["greatest"] is not TooMany:
            self.assertEqual(told["greatest"], " | ".join(places(some) for some in greatest_lots(program)))
        self.assertEqual(told["marks"], " ".join(str(part) for part in false_marks(program)) or "none")
        steps = [[f"load {step[1]}" if step[0] == "load" else f"ask {step[1]}.{step[2]}" for step in audience]
                 for audience in least_audiences(program, ("lot", lot))]
        self.assertEqual(told["who"], " | ".join(", ".join(some) for some in steps) or "nobody")
        flat = ManyDoors if len(doors_of(program)) > 1 else \
            show_layout(program, flat_layout(program)).replace("\n", " / ")
        self.assertEqual(told["flat"], flat)
        self.assertEqual(told["split"], show_layout(program, split_layout(program)).replace("\n", " / "))
        self.assertEqual(told["show"], show_program(program).replace("\n", " / "))
        if all_rows(program)[0] == (0, 0):
            for row, options in (("why 0:0 -", ()), ("why 0:0 loads,marks", ("loads", "marks"))):
                way = reason_for(program, (0, 0), options)
                self.assertEqual(told[row], "gone" if way is None else " < ".join(places([place]) for _, place in way))
        else:
            self.assertEqual((told["why 0:0 -"], told["why 0:0 loads,marks"]), (BadPlace, BadPlace))


class ErrorsTest(DeskCase):
    ALONE = ["undo", "back", "safe", "lot", "greatest", "marks", "who", "flat", "split", "show"]
    PLACED = ["leave", "take", "fail"]
    NUMBERED = ["load", "mark", "unmark"]

    def test_no_rows(self):
        desk = desk_of(EXAMPLE)
        self.raises(BadCommand, desk, *[thing for thing in STRANGE if not isinstance(thing, str)], Same(), Touchy(),
                    b"show", ["show"], ("show",))
        self.raises(BadCommand, desk, "", " ", "oh", "Show", "shows", "sho", "take back 0:0", "take_back 0:0", "events", "state",
                    "0:0", "-", "\n", "program", "shake", "why", "programs entries 0")

    def test_blanks_too_many_or_too_few(self):
        desk = desk_of(EXAMPLE)
        for word in self.ALONE:
            self.raises(BadCommand, desk, word + " ", " " + word, word + " 0", word + " -", word + "\n", word + "  ")
        for word in self.PLACED:
            self.raises(BadCommand, desk, word, word + " ", word + "  0:0", word + " 0:0 ", " " + word + " 0:0", word + "0:0",
                        word + " 0: 0", word + "\n0:0", word + " 0:0 0:0")
        for word in self.NUMBERED:
            self.raises(BadCommand, desk, word, word + " ", word + "  0", word + " 0 ", word + " 0 0", " " + word + " 0")
        self.raises(BadCommand, desk, "ask", "ask ", "ask  0.a", "ask 0.a ", "ask 0 a", "ask 0. a", "ask 0.a 0.b")
        self.raises(BadCommand, desk, "why", "why ", "why 0:0", "why  0:0 -", "why - -", "why 0:0,0:1 -", "why 0: 0")
        self.raises(BadCommand, desk, " program " + FIRST, " shake -", "program\n" + FIRST, "shake\n-")

    def test_numbers_are_single_digits(self):
        desk = desk_of(EXAMPLE)
        for word in self.PLACED:
            self.raises(BadCommand, desk, *[f"{word} {text}" for text in ("00:0", "0:00", "0:10", "-1:0", "0:-1", "a:0", "0:a", "0.0",
                                                                       "0", ":0", "0:", "0:0:0", "(0, 0)", "--")])
        self.raises(BadCommand, desk, "leave -", "take -")
        for word in self.NUMBERED:
            self.raises(BadCommand, desk, *[f"{word} {text}" for text in ("00", "01", "10", "-1", "-", "a", "0:0", "0.a")])
        self.raises(BadCommand, desk, *["ask " + text for text in ("00.a", "0.e", "0.aa", "0.", ".a", "0", "0:a", "a.0", "-", "0.a,0.b",
                                                                   "0.A", "0.0")])
        self.raises(BadCommand, desk, "why 00:0 -", "why 0:00 -", "why 0 -", "why a:0 -", "why 0.0 -", "why : -")

    def test_bad_places(self):
        desk = desk_of(EXAMPLE)
        self.raises(BadPlace, desk, "leave 0:2", "leave 2:0", "leave 9:9", "take 0:0", "take 9:9", "fail 0:0", "fail 9:9",
                    "why 0:2 -", "why 9:0 loads")
        self.says(desk, "leave 0:0", "ok", "why 0:0 -", "1:0 < 0:0")
        self.raises(BadPlace, desk, "leave 0:0", "take 0:1")
        # A bad place goes ahead of bad options.
        self.raises(BadPlace, desk, "why 0:2 oh", "why 0:2 ")

    def test_bad_steps(self):
        desk = desk_of(ROWS)
        self.raises(BadStep, desk, "load 2", "load 9", "ask 0.c", "ask 9.a", "ask 2.a")

    def test_bad_parts(self):
        self.raises(BadPart, desk_of(ROWS), "mark 3", "mark 9", "unmark 3", "unmark 9")

    def test_bad_options(self):
        desk = desk_of(EXAMPLE)
        for text in ("", " ", "oh", "marks,loads", "loads,loads", "loads,", ",loads", "loads, marks", "loads marks", "-,loads", "--",
                     "- ", " -", "loads,-", "Loads", "loads\n", "loads,lookups,marks,risks,risks"):
            self.raises(BadOptions, desk, "shake " + text, "why 0:0 " + text)

    def test_too_many(self):
        program = program_of([give("a")] * 4, [give("a")] * 3)
        self.raises(TooMany, desk_of(program), "greatest")

    def test_nothing_to_undo(self):
        desk = desk_of(EXAMPLE)
        self.raises(NothingToUndo, desk, "undo")
        for row in LOOKS:
            self.look(desk, row)
        self.raises(NothingToUndo, desk, "undo")
        self.says(desk, "back", "nothing", "undo", "ok")
        self.raises(NothingToUndo, desk, "undo")

    def test_an_error_keeps_the_run_and_what_can_be_taken_back(self):
        desk = desk_of(ROWS)
        self.says(desk, "leave 2:0", "ok", "load 0", "out 0:1")
        self.raises(BadStep, desk, "load 2")
        self.raises(BadPlace, desk, "leave 2:0", "take 0:0", "fail 0:0", "why 9:9 -")
        self.raises(BadPart, desk, "mark 3")
        self.raises(BadOptions, desk, "shake oh")
        self.raises(BadText, desk, "program oh")
        self.raises(BadCommand, desk, "oh", "load")
        self.raises(ManyDoors, desk, "flat")
        self.says(desk, "back", "show 0:3", "undo", "ok", "undo", "ok", "lot", "2:0", "undo", "ok", "lot", "nothing")
        self.raises(NothingToUndo, desk, "undo")


class ResultsTest(DeskCase):
    def test_two_desks(self):
        one, other = Desk(), Desk()
        self.says(one, row_of(EXAMPLE), "ok")
        self.says(other, "show", FIRST)

    def test_the_argument_by_name(self):
        self.assertEqual(Desk().say(row="show"), FIRST)
        self.assertIn("say", vars(Desk))
        self.assertEqual(Desk.__module__, "leanbundle.desk")

    def test_looks_change_nothing(self):
        desk = desk_of(ROWS)
        self.says(desk, "leave 0:1", "ok", "load 0", "show 0:3")
        before = [self.look(desk, row) for row in LOOKS]
        self.assertEqual([self.look(desk, row) for row in LOOKS], before)
        self.says(desk, "undo", "ok", "undo", "ok")
        self.raises(NothingToUndo, desk, "undo")

    def test_a_late_row_that_loads_nothing(self):
        program = program_of([late("a", -1), load(0)], opens=[(0, "a")])
        self.says(desk_of(program), "load 0", "nothing", "ask 0.a", "show 0:0",
                  "show", "entries 0 / open 0.a / part / late a - - / load 0")


if __name__ == "__main__":
    unittest.main()
