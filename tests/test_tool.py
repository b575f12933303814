"""Promises 29 to 32: what the tool keeps, why, and which of its options nobody can tell."""

import copy
import unittest

from leanbundle.answers import answer_to
from leanbundle.errors import BadOptions, BadPlace, BadProgram
from leanbundle.programs import all_rows, is_lot, is_program
from leanbundle.sure import shortened
from leanbundle.tool import breaking_program, false_marks, lean, reason_for, shaken_lot, sharp_lot
from tests import second, trial
from tests.chance import drawn_program, drawn_small_program, draws
from tests.samples import (EXAMPLE, FULL, OUT, STRANGE, Same, Touchy, give, hand, late, load, program_of, show, spoilt)

WORDS = ("loads", "lookups", "marks", "risks")
BAD_OPTIONS = [
    ["loads"], [], ("loads", "loads"), ("marks", "loads"), ("risks", "lookups"), ("lookups", "loads"), ("load",),
    ("Loads",), ("",), (None,), (0,), (b"loads",), (("loads",),), (["loads"],), ("loads", None), "loads", None, {"loads"},
    {"loads": 1}, WORDS + ("shows",), WORDS * 2, WORDS[::-1], (Same(),), (Touchy(),), ("loads", Same()), Same(), Touchy()]


def is_harmless(program, lot):
    return answer_to(program, ("lot", lot))[0] == "same"


class ShakenTest(unittest.TestCase):
    def gone(self, program, options, *places):
        self.assertEqual(shaken_lot(program, options), places)

    def test_a_show_and_out_rows(self):
        program = program_of([show(), OUT, show(risky=True)])
        for options in second.OPTIONS:
            self.gone(program, options)

    def test_a_risky_rows(self):
        program = program_of([give("a", risky=True), give("a"), show(risky=True)])
        self.gone(program, (), (0, 1))
        self.gone(program, ("risks",), (0, 0), (0, 1))
        self.gone(program, ("loads", "lookups", "risks"), (0, 0), (0, 1))

    def test_b_give_rows_with_needs_that_are_not_sure(self):
        program = program_of([give("a"), give("b", (0, "a")), give("c", (0, "d"))])
        self.gone(program, (), (0, 0), (0, 1))
        self.gone(program, ("lookups",), (0, 0), (0, 1), (0, 2))
        # A risky one is kept by (a), whatever is sure.
        program = program_of([give("b", (0, "a"), risky=True)])
        self.gone(program, ("lookups",))
        self.gone(program, ("risks",))
        self.gone(program, ("lookups", "risks"), (0, 0))

    def test_b_a_late_row_with_needs_is_not_kept_by_it(self):
        self.gone(program_of([late("a", -1, (0, "b"))]), (), (0, 0))

    def test_c_needs_of_kept_rows(self):
        program = program_of([give("a"), give("b"), late("c", -1), give("d"), show((0, "a"), (0, "c"))])
        self.gone(program, (), (0, 1), (0, 3))
        program = program_of([give("a"), late("b", -1, (0, "a")), give("c"), show((0, "b"))])
        self.gone(program, (), (0, 2))

    def test_c_all_rows_that_give_the_name(self):
        program = program_of([give("a"), show((0, "a")), give("a"), late("a", -1), late("b", -1)], [give("a")])
        self.gone(program, (), (0, 4), (1, 0))

    def test_c_open_names(self):
        program = program_of([give("a"), give("b"), late("a", -1)], [give("a")], opens=[(0, "a")])
        self.gone(program, (), (0, 1), (1, 0))

    def test_c_what_a_kept_pass_row_hands_on(self):
        program = program_of([give("a"), give("b"), hand("c", 0, "a"), show((0, "c"))])
        self.gone(program, (), (0, 1))
        self.gone(program, ("loads",), (0, 1))
        # The pass row is kept for its load alone.
        self.gone(program_of([give("a"), give("b"), hand("c", 0, "a")]), (), (0, 1))
        self.gone(program_of([give("a"), give("b"), hand("c", 0, "a")]), ("loads",), (0, 0), (0, 1), (0, 2))

    def test_d_load_and_pass_rows(self):
        program = program_of([load(0), load(1), hand("a", 1, "b"), late("c", 1)], [])
        self.gone(program, (), (0, 3))
        self.gone(program, ("loads",), (0, 0), (0, 1), (0, 2), (0, 3))

    def test_d_rows_behind_a_load(self):
        program = program_of([load(1), load(2), load(3)], [load(2)], [load(2), show()], [load(3)])
        self.gone(program, ("loads",), (0, 2), (3, 0))
        program = program_of([load(1)], [hand("a", 2, "b")], [OUT])
        self.gone(program, ("loads",))
        # What late rows name is not led to.
        program = program_of([load(1)], [late("a", 2)], [show()])
        self.gone(program, ("loads",), (0, 0), (1, 0))

    def test_d_a_part_of_which_a_row_is_needed(self):
        program = program_of([load(1), show((1, "a")), load(2)], [give("a")], [give("a")])
        self.gone(program, ("loads",), (0, 2), (2, 0))

    def test_d_loads_that_go_round(self):
        self.gone(program_of([load(1)], [load(0)]), ("loads",), (0, 0), (1, 0))
        self.gone(program_of([load(1), show()], [load(0)]), ("loads",))

    def test_e_a_marked_part(self):
        program = program_of([show((1, "a")), give("b", (0, "d"))], [give("a"), show(), OUT, give("c")],
                             [show(), give("a"), give("b", risky=True)], marks=(False, True, True))
        self.gone(program, (), (1, 3), (2, 1))
        self.gone(program, ("marks",), (1, 3), (2, 0), (2, 1), (2, 2))
        self.gone(program, ("lookups", "marks"), (0, 1), (1, 3), (2, 0), (2, 1), (2, 2))

    def test_e_open_names(self):
        program = program_of([give("a"), show(), give("b", (0, "d"))], opens=[(0, "a")], marks=(True,))
        self.gone(program, ("marks",))
        self.gone(program, ("lookups", "marks"), (0, 2))
        # Nobody gives the open name, so (c) asks for no row of the part.
        program = program_of([show()], opens=[(0, "a")], marks=(True,))
        self.gone(program, ("marks",), (0, 0))

    def test_e_a_row_kept_for_its_load_does_not_ask(self):
        program = program_of([load(1), hand("a", 1, "b"), show()], [show()], marks=(True, False))
        self.gone(program, ("marks",), (0, 2))
        self.gone(program, ("loads", "marks"), (0, 2))
        # But what that pass row hands on does.
        program = program_of([hand("a", 0, "a"), show()], marks=(True,))
        self.gone(program, ("marks",))
        self.gone(program, ("loads", "marks"), (0, 0), (0, 1))

    def test_e_marked_parts_that_need_each_other(self):
        program = program_of([show((1, "a")), give("a")], [show((0, "a")), give("a")], marks=(True, True))
        self.gone(program, ("marks",), (0, 0), (0, 1), (1, 0), (1, 1))
        program = (program[0], (True, False)) + program[2:]
        self.gone(program, ("marks",))

    def test_e_marks_without_the_option(self):
        program = program_of([show(), give("a", risky=True), OUT], marks=(True,))
        for options in ((), ("loads",), ("lookups",), ("loads", "lookups")):
            self.gone(program, options)

    def test_all_sets_of_rows(self):
        found = 0
        for draw in draws(160):
            program = drawn_small_program(draw, 7)
            for options in second.OPTIONS:
                kept = second.kept_rows(program, options)
                lot = shaken_lot(program, options)
                self.assertEqual(lot, tuple(place for place in all_rows(program) if place not in kept), (program, options))
                found += 0 < len(lot) < len(all_rows(program))
        self.assertGreater(found, 500)

    def test_greater_programs(self):
        for draw in draws(120):
            program = drawn_program(draw)
            for options in second.OPTIONS:
                lot = shaken_lot(program, options)
                self.assertTrue(is_lot(program, lot))
                kept = [place for place in all_rows(program) if place not in lot]
                held = second.unsure(program)
                self.assertLessEqual(second.demanded(program, options, kept, held), set(kept), (program, options))

    def test_more_options_never_leave_out_less(self):
        for draw in draws(150):
            program = drawn_program(draw)
            for options in second.OPTIONS:
                for more in second.OPTIONS:
                    if set(options) <= set(more):
                        self.assertLessEqual(set(shaken_lot(program, options)), set(shaken_lot(program, more)))


class HarmlessTest(unittest.TestCase):
    """Promise 30."""

    def test_by_answers(self):
        found = {(): 0, ("loads",): 0}
        for draw in draws(500):
            program = drawn_small_program(draw, 11) if draw.random() < 0.6 else drawn_program(draw)
            for options in found:
                lot = shaken_lot(program, options)
                self.assertTrue(is_harmless(program, lot), (program, options))
                found[options] += bool(lot)
        self.assertGreater(min(found.values()), 150)

    def test_by_runs(self):
        for draw in draws(150):
            program = drawn_small_program(draw, 8)
            for options in ((), ("loads",)):
                self.assertIsNone(trial.walk(program, ("lot", shaken_lot(program, options)))[0], program)

    def test_breaking_programs(self):
        self.assertEqual(len(second.OPTIONS), 16)
        for options in second.OPTIONS:
            program = breaking_program(options)
            if options in ((), ("loads",)):
                self.assertIsNone(program)
                continue
            self.assertTrue(is_program(program), options)
            self.assertEqual(len(all_rows(program)), 1)
            lot = shaken_lot(program, options)
            self.assertEqual(lot, ((0, 0),))
            self.assertEqual(answer_to(program, ("lot", lot))[0], "other")

    def test_sharp_lot(self):
        # Part 1 comes behind part 0 alone, so its need is found, though it is not sure.
        program = program_of([give("a"), load(1)], [give("b", (0, "a"))])
        self.assertEqual(shaken_lot(program, ("loads",)), ())
        self.assertEqual(sharp_lot(program), ((0, 0), (0, 1), (1, 0)))
        self.assertEqual(sharp_lot(program[:2] + ((0, 1), ())), ())
        # A row whose turn never comes finds all of its needs.
        program = program_of([], [give("a", (0, "b"))])
        self.assertEqual((shaken_lot(program, ("loads",)), sharp_lot(program)), ((), ((1, 0),)))
        # Marks and risks count as by ("loads",).
        program = program_of([give("a", risky=True), show(), give("c", (0, "d")), load(0)], marks=(True,))
        self.assertEqual(sharp_lot(program), shaken_lot(program, ("loads",)))

    def test_sharp_lots_drawn(self):
        more = 0
        for draw in draws(300):
            program = drawn_small_program(draw, 8) if draw.random() < 0.8 else drawn_program(draw)
            lot = sharp_lot(program)
            self.assertTrue(is_harmless(program, lot), program)
            self.assertLessEqual(set(shaken_lot(program, ("loads",))), set(lot))
            if len(all_rows(program)) < 8:
                kept = second.kept_rows(program, ("loads",), second.unfound(program))
                self.assertEqual(lot, tuple(place for place in all_rows(program) if place not in kept), program)
            more += lot != shaken_lot(program, ("loads",))
        self.assertGreater(more, 15)


class ReasonTest(unittest.TestCase):
    def reason(self, program, place, options, *way):
        told = reason_for(program, place, options)
        self.assertEqual(told, list(way) or None)

    def test_rows_that_are_asked_for_themselves(self):
        program = program_of([show(), OUT, give("a", risky=True), give("a", (0, "d")), give("b")], opens=[(0, "b")])
        for options in ((), ("loads",)):
            self.reason(program, (0, 0), options, ("shows", (0, 0)))
            self.reason(program, (0, 1), options, ("shows", (0, 1)))
            self.reason(program, (0, 2), options, ("risks", (0, 2)))
            self.reason(program, (0, 3), options, ("lacks", (0, 3)))
            self.reason(program, (0, 4), options, ("open", (0, 4)))
        self.reason(program, (0, 2), ("risks",))
        self.reason(program, (0, 3), ("lookups",))

    def test_a_risky_show_row(self):
        program = program_of([show(risky=True)])
        self.assertIn(reason_for(program, (0, 0), ()), ([("shows", (0, 0))], [("risks", (0, 0))]))
        self.reason(program, (0, 0), ("risks",), ("shows", (0, 0)))

    def test_rows_that_are_left_out(self):
        program = program_of([give("a"), late("b", -1), load(0), hand("c", 0, "d")])
        self.reason(program, (0, 0), ())
        self.reason(program, (0, 1), ())
        self.reason(program, (0, 2), ("loads",))
        self.reason(program, (0, 3), ("loads",))

    def test_loads(self):
        program = program_of([load(1), hand("a", 1, "b")], [load(2)], [show()])
        for place in ((0, 0), (0, 1), (1, 0)):
            self.reason(program, place, (), ("loads", place))
            self.reason(program, place, ("loads",), ("shows", (2, 0)), ("loads", place))

    def test_needs(self):
        program = program_of([show((0, "c")), late("c", -1, (1, "b"))], [give("a"), hand("b", 1, "a")])
        way = [("shows", (0, 0)), ("needs", (0, 1)), ("needs", (1, 1)), ("needs", (1, 0))]
        for at in range(1, 5):
            self.reason(program, way[at - 1][1], ("loads",), *way[:at])
        # Without "loads" the pass row stands by itself.
        self.reason(program, (1, 1), (), ("loads", (1, 1)))
        self.reason(program, (1, 0), (), ("loads", (1, 1)), ("needs", (1, 0)))

    def test_all_rows_that_give_a_needed_name(self):
        program = program_of([give("a"), show((0, "a")), late("a", -1)])
        for place in ((0, 0), (0, 2)):
            self.reason(program, place, (), ("shows", (0, 1)), ("needs", place))

    def test_a_short_way_beside_a_long_one(self):
        program = program_of([give("a"), give("b", (0, "a"), risky=True), show((0, "c")), hand("c", 0, "a")])
        self.reason(program, (0, 0), ("loads",), ("risks", (0, 1)), ("needs", (0, 0)))

    def test_marked(self):
        program = program_of([show((1, "a"))], [give("a"), OUT, give("b", risky=True), give("c", (1, "d"))],
                             marks=(False, True))
        before = [("shows", (0, 0)), ("needs", (1, 0))]
        self.reason(program, (1, 0), ("marks",), *before)
        for place in ((1, 1), (1, 2), (1, 3)):
            self.reason(program, place, ("marks",), *before, ("marked", place))
        self.reason(program, (1, 1), (), ("shows", (1, 1)))
        self.reason(program, (1, 3), ("lookups", "marks"))
        self.reason(program, (1, 2), ("marks", "risks"))

    def test_marked_by_an_open_name(self):
        program = program_of([give("a"), show((0, "b")), give("b")], opens=[(0, "a")], marks=(True,))
        before = [("open", (0, 0)), ("marked", (0, 1))]
        self.reason(program, (0, 1), ("marks",), *before)
        self.reason(program, (0, 2), ("marks",), *before, ("needs", (0, 2)))

    def test_marked_asks_for_a_row_that_is_needed_or_open(self):
        # The pass row (1, 0) is kept at once for its load, but what asks for the show row of the part is the need.
        program = program_of([show((1, "a"))], [hand("a", 0, "b"), OUT], marks=(False, True))
        self.reason(program, (1, 0), ("marks",), ("loads", (1, 0)))
        self.reason(program, (1, 1), ("marks",), ("shows", (0, 0)), ("needs", (1, 0)), ("marked", (1, 1)))
        program = program_of([], [hand("a", 0, "b"), OUT], marks=(False, True))
        self.reason(program, (1, 0), ("marks",), ("loads", (1, 0)))
        self.reason(program, (1, 1), ("marks",))

    def test_drawn(self):
        whys, lengths = {}, set()
        for draw in draws(220):
            program = drawn_small_program(draw, 9) if draw.random() < 0.8 else drawn_program(draw)
            options = draw.choice(second.OPTIONS)
            least = second.reason_lengths(program, options)
            lot = shaken_lot(program, options)
            for place in all_rows(program):
                way = reason_for(program, place, options)
                self.assertEqual(way is None, place in lot, (program, place, options))
                self.assertEqual(way is None, place not in least)
                if way is not None:
                    self.assertTrue(second.is_reason(program, place, options, way), (program, place, options, way))
                    self.assertEqual(len(way), least[place], (program, place, options, way))
                    lengths.add(len(way))
                    for why, _ in way:
                        whys[why] = whys.get(why, 0) + 1
        self.assertEqual(set(whys), {"shows", "risks", "lacks", "open", "loads", "needs", "marked"})
        self.assertGreater(min(whys.values()), 10)
        self.assertLessEqual({1, 2, 3}, lengths)


class MarksTest(unittest.TestCase):
    """Promise 32."""

    def test_true_and_false_marks(self):
        program = program_of([show(), load(1), load(2)], [give("a")], [give("b", risky=True)], marks=(True, True, True))
        self.assertEqual(false_marks(program), [0, 2])
        self.assertEqual(false_marks((program[0], (False, True, True)) + program[2:]), [2])
        self.assertEqual(false_marks((program[0], (False, False, False)) + program[2:]), [])

    def test_a_part_that_shows_is_marked_truly_if_it_is_needed(self):
        program = program_of([load(1), show((1, "a"))], [give("a"), show()], marks=(False, True))
        self.assertEqual(false_marks(program), [])
        program = program_of([load(1), show()], [give("a"), show()], marks=(False, True))
        self.assertEqual(false_marks(program), [1])

    def test_a_row_that_never_comes(self):
        self.assertEqual(false_marks(program_of([], [show()], marks=(True, True))), [])

    def test_each_mark_is_looked_at_alone(self):
        # With both marks part 1 is needed by nobody that is kept; with its own one alone part 0 still needs it.
        program = program_of([load(1), show((1, "a"))], [give("a"), show()], marks=(True, True))
        self.assertEqual(false_marks(program), [0])
        self.assertEqual(shaken_lot(program, ("loads", "marks")), tuple(all_rows(program)))

    def test_drawn(self):
        found = {}
        for draw in draws(250):
            program = drawn_small_program(draw, 8)
            told = false_marks(program)
            for part, mark in enumerate(program[1]):
                marked = (program[0], tuple(other == part for other in range(len(program[0])))) + program[2:]
                kept = second.kept_rows(marked, ("loads", "marks"))
                lot = tuple(place for place in all_rows(program) if place not in kept)
                wrong = mark and trial.walk(marked, ("lot", lot))[0] is not None
                self.assertEqual(part in told, wrong, (program, part))
                found[mark, wrong] = found.get((mark, wrong), 0) + 1
            self.assertEqual(told, sorted(told))
        self.assertGreater(min(found.values()), 20)

    def test_lean(self):
        program = program_of([give("a"), hand("b", 0, "a"), show((0, "b")), give("c"), load(0)], marks=(True,))
        other, lot = lean(program)
        self.assertEqual(other, program_of([give("a"), hand("b", 0, "a"), show((0, "a")), give("c"), load(0)],
                                           marks=(True,)))
        self.assertEqual(lot, ((0, 3),))
        self.assertEqual(lean(EXAMPLE), (EXAMPLE, ()))
        # Behind the shortening nobody names the pass row any more, and nothing of what it loads is kept.
        program = program_of([hand("b", 1, "a"), show((0, "b"))], [late("c", -1)])
        self.assertEqual(shaken_lot(program, ("loads",)), ((1, 0),))
        self.assertEqual(lean(program), (program_of([hand("b", 1, "a"), show((1, "a"))], [late("c", -1)]), ((0, 0), (1, 0))))

    def test_lean_is_harmless(self):
        for draw in draws(300):
            program = drawn_small_program(draw, 10) if draw.random() < 0.7 else drawn_program(draw)
            told = lean(program)
            self.assertEqual(told, (shortened(program), shaken_lot(shortened(program), ("loads",))))
            self.assertEqual(answer_to(program, ("program",) + told)[0], "same", program)
            if draw.random() < 0.2:
                self.assertIsNone(trial.walk(program, ("program",) + told)[0])


class ErrorsTest(unittest.TestCase):
    def test_bad_program(self):
        for thing in STRANGE + [list(EXAMPLE), EXAMPLE[:3]] + [thing for _, thing in spoilt(EXAMPLE)]:
            for function in (sharp_lot, false_marks, lean):
                self.assertRaises(BadProgram, function, thing)
            for options in ((), None, ("marks", "loads")):
                self.assertRaises(BadProgram, shaken_lot, thing, options)
                for place in ((0, 0), (9, 9), None):
                    self.assertRaises(BadProgram, reason_for, thing, place, options)

    def test_bad_place(self):
        for thing in STRANGE + [(0, 2), (2, 0), (-1, 0), (False, 0), (0, True), [0, 0], (0,), Same(), (0, Same()), Touchy()]:
            if isinstance(thing, tuple) and thing == (0, 0) and thing[0] is not False:
                continue
            for options in ((), None, ("marks", "loads")):
                self.assertRaises(BadPlace, reason_for, EXAMPLE, thing, options)

    def test_bad_options(self):
        for thing in [thing for thing in STRANGE if not (isinstance(thing, tuple) and thing == ())] + BAD_OPTIONS:
            self.assertRaises(BadOptions, shaken_lot, EXAMPLE, thing)
            self.assertRaises(BadOptions, breaking_program, thing)
            self.assertRaises(BadOptions, reason_for, EXAMPLE, (0, 0), thing)
        for _, thing in spoilt(WORDS):
            self.assertRaises(BadOptions, shaken_lot, EXAMPLE, thing)


class ResultsTest(unittest.TestCase):
    def test_arguments_by_name(self):
        self.assertEqual(shaken_lot(options=("risks",), program=FULL), shaken_lot(FULL, ("risks",)))
        self.assertEqual(breaking_program(options=("risks",)), breaking_program(("risks",)))
        self.assertEqual(sharp_lot(program=FULL), sharp_lot(FULL))
        self.assertEqual(reason_for(options=(), place=(0, 1), program=FULL), reason_for(FULL, (0, 1), ()))
        self.assertEqual(false_marks(program=FULL), false_marks(FULL))
        self.assertEqual(lean(program=FULL), lean(FULL))

    def test_kinds_and_new_lists(self):
        program = copy.deepcopy(FULL)
        for told in (shaken_lot(program, ("loads",)), sharp_lot(program), lean(program), lean(program)[1],
                     breaking_program(("risks",))):
            self.assertIs(told.__class__, tuple)
        for call in (lambda: false_marks(program), lambda: reason_for(program, (1, 0), ())):
            first = call()
            self.assertIs(first.__class__, list)
            kept = list(first)
            first.append(None)
            self.assertEqual(call(), kept)
        for link in reason_for(program, (1, 0), ()):
            self.assertEqual((link.__class__, link[1].__class__), (tuple, tuple))
        self.assertEqual(program, FULL)


if __name__ == "__main__":
    unittest.main()
