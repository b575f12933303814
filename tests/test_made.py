"""Promise 14: what can be made of a program, and BadMade for anything else."""

import unittest

from leanbundle.answers import answer_holds, answer_to, paper_holds
from leanbundle.errors import BadMade, BadProgram
from leanbundle.programs import is_layout, is_lot, is_program
from leanbundle.tables import user_table
from tests.samples import (FULL, FULL_LAYOUT, FULL_LOT, OUT, STRANGE, ask, give, hand, late, load, program_of, show,
                           spoilt, with_odd_objects)

PROGRAM = program_of([late("a", 1), show()], [give("b", risky=True), OUT], opens=[(0, "a")])
LAYOUT = ((((0, 0),), ((1, 1), (1, 0))), ((0, (0,)), (1, (1, 0))))

# As many parts and rows, the same entries and opens; its late row names no part, so that part 1 is no door.
OTHER = program_of([late("c", -1), give("a")], [load(0), OUT], opens=[(0, "a")], marks=(True, False))
OTHER_LAYOUT = ((((0, 0), (0, 1)),), ((0, (0,)),))

GOOD = [
    ("lot", ()), ("lot", ((0, 1), (1, 0))), ("layout", LAYOUT), ("layout", ((), ((0, ()), (1, ())))),
    ("program", PROGRAM, ()), ("program", OTHER, ()), ("program", OTHER, ((0, 0), (1, 1))),
    ("packed", PROGRAM, LAYOUT), ("packed", OTHER, OTHER_LAYOUT)]

UNLIKE_PROGRAMS = [
    # Other numbers of parts.
    program_of([late("a", 0), show(), give("b", risky=True), OUT], opens=[(0, "a")]),
    program_of([late("a", 1), show()], [give("b", risky=True), OUT], [], opens=[(0, "a")]),
    # Other numbers of rows in a part.
    program_of([late("a", 1), show(), OUT], [give("b", risky=True)], opens=[(0, "a")]),
    program_of([late("a", 1), show()], [give("b", risky=True)], opens=[(0, "a")]),
    program_of([late("a", 1), show()], [give("b", risky=True), OUT, OUT], opens=[(0, "a")]),
    program_of([], [], opens=[(0, "a")]),
    # Other entries.
    program_of([late("a", 1), show()], [give("b", risky=True), OUT], entries=(1,), opens=[(0, "a")]),
    program_of([late("a", 1), show()], [give("b", risky=True), OUT], entries=(0, 1), opens=[(0, "a")]),
    # Other opens.
    program_of([late("a", 1), show()], [give("b", risky=True), OUT]),
    program_of([late("a", 1), show()], [give("b", risky=True), OUT], opens=[(1, "a")]),
    program_of([late("a", 1), show()], [give("b", risky=True), OUT], opens=[(0, "b")]),
    program_of([late("a", 1), show()], [give("b", risky=True), OUT], opens=[(0, "a"), (1, "b")])]

BAD = STRANGE + [
    # Wrong words.
    ("lots", ()), ("Lot", ()), (b"lot", ()), (None, ()), ("", ()), (0, ()), ((), ()), ("program", ()), ("packed", ()),
    ("layouts", LAYOUT), ("lots", OTHER, ()), ("made", OTHER, ()), ("programs", OTHER, ()), (None, OTHER, ()),
    ("pack", OTHER, OTHER_LAYOUT),
    # A word with what another one asks for.
    ("lot", LAYOUT), ("layout", ()), ("program", OTHER, OTHER_LAYOUT), ("packed", OTHER, ()), ("program", LAYOUT),
    ("packed", LAYOUT), ("packed", OTHER_LAYOUT), ("lot", PROGRAM, ()), ("layout", PROGRAM, LAYOUT), ("program", PROGRAM),
    ("packed", OTHER),
    # Too few or too many entries, and another order.
    (), ("lot",), ("layout",), ("program",), ("packed",), ("lot", (), ()), ("lot", (), None), ("layout", LAYOUT, ()),
    ("program", OTHER, (), ()), ("packed", OTHER, OTHER_LAYOUT, ()), ((), "lot"), (LAYOUT, "layout"),
    ("program", (), OTHER), (OTHER, "program", ()), ("packed", OTHER_LAYOUT, OTHER),
    # Lists in the place of tuples.
    ["lot", ()], ["layout", LAYOUT], ["program", OTHER, ()], ["packed", OTHER, OTHER_LAYOUT], ("lot", []),
    ("lot", [(0, 1)]), ("lot", ([0, 1],)), ("layout", list(LAYOUT)), ("program", list(OTHER), ()), ("program", OTHER, []),
    ("packed", list(OTHER), OTHER_LAYOUT), ("packed", OTHER, list(OTHER_LAYOUT)),
    # Lots that are none of the program.
    ("lot", ((0, 2),)), ("lot", ((2, 0),)), ("lot", ((1, 0), (0, 1))), ("lot", ((0, 1), (0, 1))), ("lot", ((False, 1),)),
    ("lot", ((0, True),)), ("lot", (0, 1)), ("lot", None), ("program", OTHER, ((0, 2),)), ("program", OTHER, ((1, 0), (0, 0))),
    # Layouts that are none of the program: the doors are those of the program that is laid.
    ("layout", OTHER_LAYOUT), ("packed", OTHER, LAYOUT), ("packed", PROGRAM, OTHER_LAYOUT), ("layout", ((), ())),
    ("layout", ((), ((1, ()), (0, ())))), ("layout", ((), ((0, (0,)), (1, ())))), ("layout", None),
    ("packed", OTHER, ((((0, 0), (0, 0)),), ((0, (0,)),))), ("packed", OTHER, None),
    # Another object than a program.
    ("program", None, ()), ("program", (), ()), ("program", PROGRAM[0], ()), ("program", PROGRAM[:3], ()),
    ("program", ("lot", ()), ()), ("packed", None, LAYOUT)]
BAD += [("program", unlike, ()) for unlike in UNLIKE_PROGRAMS]
BAD += [("packed", unlike, ((), tuple((door, ()) for door in doors)))
        for unlike in UNLIKE_PROGRAMS for doors in ((0,), (1,), (0, 1))]

CALLS = [answer_to, lambda program, made: answer_holds(program, made, ("same", [])),
         lambda program, made: paper_holds(program, made, []), user_table]


def with_one_more_pack(made):
    """What was made, laid with one more pack without rows, which is let; it itself, if it is not laid."""
    return made[:-1] + ((made[-1][0] + ((),), made[-1][1]),) if made[0] in ("layout", "packed") else made


class MadeTest(unittest.TestCase):
    def test_the_samples(self):
        self.assertTrue(is_layout(PROGRAM, LAYOUT) and is_layout(OTHER, OTHER_LAYOUT))
        self.assertFalse(is_layout(PROGRAM, OTHER_LAYOUT) or is_layout(OTHER, LAYOUT))
        self.assertTrue(all(is_program(program) for program in UNLIKE_PROGRAMS + [PROGRAM, OTHER]))

    def test_the_four_forms(self):
        for made in GOOD:
            self.assertIn(answer_to(PROGRAM, made)[0], ("same", "other"))
            for call in CALLS:
                call(PROGRAM, made)

    def test_anything_else(self):
        for made in BAD:
            for call in CALLS:
                with self.assertRaises(BadMade, msg=made):
                    call(PROGRAM, made)

    def test_each_spot(self):
        samples = [(PROGRAM, made) for made in GOOD]
        samples += [(FULL, made) for made in (("lot", FULL_LOT), ("program", FULL, FULL_LOT), ("packed", FULL, FULL_LAYOUT))]
        for program, good in samples:
            for _, made in spoilt(good) + with_odd_objects(good):
                # As texts, since some of the objects cannot be compared.
                if repr(made) != repr(with_one_more_pack(good)):
                    with self.assertRaises(BadMade, msg=made):
                        answer_to(program, made)

    def test_a_lot_of_a_program_with_more_rows(self):
        more = program_of([late("a", 1), show(), show()], [give("b", risky=True), OUT], opens=[(0, "a")])
        self.assertTrue(is_lot(more, ((0, 2),)))
        for made in (("lot", ((0, 2),)), ("program", more, ()), ("program", more, ((0, 2),)), ("program", PROGRAM, ((0, 2),))):
            self.assertRaises(BadMade, answer_to, PROGRAM, made)

    def test_other_marks_are_let(self):
        for marks in ((False, False), (True, True), (True, False), (False, True)):
            other = (PROGRAM[0], marks, PROGRAM[2], PROGRAM[3])
            self.assertEqual(answer_to(PROGRAM, ("program", other, ())), answer_to(PROGRAM, ("lot", ())))
            self.assertEqual(user_table(PROGRAM, ("packed", other, LAYOUT)), user_table(PROGRAM, ("layout", LAYOUT)))
            self.assertEqual(user_table(other, ("lot", ((0, 0),))), user_table(PROGRAM, ("lot", ((0, 0),))))

    def test_the_program_itself(self):
        lot = ((0, 1), (1, 1))
        self.assertEqual(answer_to(PROGRAM, ("program", PROGRAM, lot)), answer_to(PROGRAM, ("lot", lot)))
        self.assertEqual(user_table(PROGRAM, ("program", PROGRAM, lot)), user_table(PROGRAM, ("lot", lot)))
        self.assertEqual(answer_to(PROGRAM, ("packed", PROGRAM, LAYOUT)), answer_to(PROGRAM, ("layout", LAYOUT)))
        self.assertEqual(user_table(PROGRAM, ("packed", PROGRAM, LAYOUT)), user_table(PROGRAM, ("layout", LAYOUT)))

    def test_bad_program_goes_first(self):
        things = STRANGE + [list(PROGRAM), PROGRAM[:3], program_of(*[[]] * 5), program_of([load(1)])]
        for thing in things:
            for made in (("lot", ()), None, ("layout", LAYOUT), ("program", PROGRAM, ()), ("program", None, ())):
                for call in CALLS:
                    self.assertRaises(BadProgram, call, thing, made)
        for _, thing in spoilt(PROGRAM):
            self.assertRaises(BadProgram, answer_to, thing, None)

    def test_bad_made_goes_ahead_of_answers_and_pairs(self):
        for thing in STRANGE:
            self.assertRaises(BadMade, answer_holds, PROGRAM, ("lot",), thing)
            self.assertRaises(BadMade, paper_holds, PROGRAM, ("lot",), thing)

    def test_the_runs_are_those_of_the_program(self):
        # What is done is the other program; its rows are shown, its doors are those of its layout.
        program = program_of([give("a")], [show((0, "a"))], entries=(0, 1), opens=[(0, "a")])
        other = program_of([late("a", 1)], [show()], entries=(0, 1), opens=[(0, "a")])
        self.assertEqual(user_table(program, ("program", other, ())), user_table(other, ("lot", ())))
        layout = ((((1, 0),), ((0, 0),)), ((0, (1, 0)), (1, (0,))))
        self.assertEqual(user_table(program, ("packed", other, layout)), user_table(other, ("layout", layout)))
        self.assertEqual(answer_to(program, ("program", other, ((0, 0),)))[0], "other")

    def test_other_rows_of_the_same_kinds_and_names(self):
        program = program_of([give("a"), give("b"), show((0, "a"))])
        other = program_of([give("b"), give("a"), show((0, "a"))])
        self.assertEqual(answer_to(program, ("program", other, ())), ("other", ([load(0)], None)))
        chain = program_of([hand("a", 1, "b"), show((0, "a"))], [give("b"), hand("c", 1, "b")], opens=[(1, "c")])
        straight = program_of([hand("a", 1, "b"), show((1, "b"))], [give("b"), late("c", -1)], opens=[(1, "c")])
        self.assertEqual(len(answer_to(chain, ("program", straight, ()))[1][0]), 2)
        self.assertEqual(answer_to(chain, ("program", straight, ()))[1][0], [load(0), ask(1, "c")])


if __name__ == "__main__":
    unittest.main()
