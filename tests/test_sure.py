"""Promises 24 to 26: parts that are ready, names that are sure, and the ways to ready parts."""

import copy
import unittest

from leanbundle.errors import BadPart, BadPlace, BadProgram
from leanbundle.programs import all_rows
from leanbundle.sure import ready_parts, sure_names, sure_way
from tests import second, trial
from tests.chance import drawn_program, drawn_small_program, draws
from tests.samples import (EXAMPLE, FULL, OUT, STRANGE, give, hand, late, load, program_of, show, spoilt,
                           with_odd_objects)

PLACES = [(0, 3), (2, 0), (-1, 0), (0, -1), (False, 0), (0, True), [0, 0], (0,), (0, 0, 0), ("0", 0), (0, None)]


def drawn_programs(many, greater):
    return [drawn_small_program(draw, 10) for draw in draws(many)] + [drawn_program(draw) for draw in draws(greater)]


class ReadyTest(unittest.TestCase):
    def ready(self, program, place, *parts):
        self.assertEqual(ready_parts(program, place), list(parts))

    def test_named_ahead_of_the_row_and_behind_it(self):
        program = program_of([show(), load(1), show(), load(2), show()], [], [])
        self.ready(program, (0, 0))
        self.ready(program, (0, 1))
        self.ready(program, (0, 2), 1)
        self.ready(program, (0, 3), 1)
        self.ready(program, (0, 4), 1, 2)

    def test_a_pass_row_names_a_part_too(self):
        program = program_of([hand("a", 1, "a"), hand("b", 1, "b")], [])
        self.ready(program, (0, 0))
        self.ready(program, (0, 1), 1)

    def test_a_late_row_leads_nowhere(self):
        program = program_of([late("a", 1), give("a"), show((1, "a"))], [load(2)], [])
        self.ready(program, (0, 2))

    def test_chains(self):
        program = program_of([load(2), show()], [give("a")], [hand("a", 3, "b"), late("c", 1)], [load(1)])
        self.ready(program, (0, 1), 1, 2, 3)
        self.ready(program, (2, 1), 1, 3)
        self.ready(program, (3, 0))
        self.ready(program, (1, 0))

    def test_a_row_of_a_ready_part_may_stand_anywhere_in_it(self):
        self.ready(program_of([load(1), show()], [show(), show(), load(2)], []), (0, 1), 1, 2)

    def test_a_part_that_leads_back(self):
        program = program_of([load(1), load(2), show()], [hand("a", 0, "a")], [])
        self.ready(program, (0, 2), 2)
        program = program_of([load(1), show()], [load(2)], [load(0)])
        self.ready(program, (0, 1))
        # From part 1 both others are ready, as far as they do not come back to it.
        self.ready(program_of([], [load(2), load(3), show()], [load(3)], [load(0)]), (1, 2), 0, 2, 3)
        self.ready(program_of([], [load(2), load(3), show()], [load(1)], [load(0)]), (1, 2), 0, 3)

    def test_what_a_part_that_leads_back_names(self):
        # Part 2 is named by part 1 alone, and that one is not ready.
        self.ready(program_of([load(1), show()], [load(0), load(2)], []), (0, 1))

    def test_the_own_part(self):
        self.ready(program_of([load(0), hand("a", 0, "a"), show()]), (0, 2))

    def test_parts_that_go_round_by_themselves(self):
        self.ready(program_of([load(1), show()], [load(2)], [load(1), load(2)]), (0, 1), 1, 2)
        # They name each other, but nothing of the own part names them.
        self.ready(program_of([show(), show()], [load(2)], [load(1)]), (0, 1))

    def test_an_out_row_comes_to_all_doors(self):
        rows = [load(1), show()]
        self.ready(program_of(rows, [OUT]), (0, 1))
        self.ready(program_of(rows, [OUT], entries=(1,)), (0, 1), 1)
        self.ready(program_of(rows, [OUT], [load(0)], entries=(2,)), (0, 1))
        self.ready(program_of(rows, [OUT], [load(1)], entries=(2,)), (0, 1), 1)

    def test_an_out_row_comes_to_what_late_rows_name(self):
        rows = [load(1), show()]
        self.ready(program_of(rows, [OUT, late("a", 0)], entries=(1,)), (0, 1))
        self.ready(program_of(rows, [OUT], [late("a", 2), load(0)], entries=(1,)), (0, 1))
        self.ready(program_of(rows, [OUT], [late("a", -1), late("b", 1), load(0)], entries=(1,)), (0, 1), 1)

    def test_an_out_row_behind_a_chain(self):
        rows = [load(1), load(3), show()]
        self.ready(program_of(rows, [load(2)], [OUT], []), (0, 2), 3)
        self.ready(program_of(rows, [load(2)], [OUT], [], entries=(3,)), (0, 2), 1, 2, 3)

    def test_an_out_row_of_the_own_part_is_no_matter(self):
        self.ready(program_of([OUT, load(1), show()], [give("a")], entries=(0, 1)), (0, 2), 1)

    def test_by_all_sets_of_parts(self):
        found = 0
        for program in drawn_programs(250, 150):
            for place in all_rows(program):
                told = ready_parts(program, place)
                self.assertEqual(told, second.ready_parts(program, place), (program, place))
                found += len(told) > 1
        self.assertGreater(found, 20)

    def test_their_rows_have_been_done(self):
        found = 0
        for draw in draws(600):
            program = drawn_small_program(draw, 8)
            ready = {place: ready_parts(program, place) for place in all_rows(program)}
            for before in turns_in(program, list(ready)):
                for place, done in before.items():
                    rows = [row for row in all_rows(program) if row[0] in ready[place]]
                    self.assertLessEqual(set(rows), set(done), (program, place))
                    found += bool(rows)
        self.assertGreater(found, 100)


class Clock(second.Model):
    """A model that notes for each row whose turn comes what was done, and which names are found, then."""

    def __init__(self, program):
        super().__init__(program)
        self.before = {}

    def row(self, place, row):
        self.before[place] = list(self.done), [need for need in self.names if self.look_up(need, ())[0] != "lack"]
        return super().row(place, row)


def clocks(program):
    """The clocks of runs of all kinds."""
    for steps in trial.states_of(program, trial.ITSELF).values():
        for step in trial.steps_of(program):
            clock = Clock(program)
            for taken in steps + [step]:
                clock.step(taken)
            yield clock.before


def turns_in(program, places):
    for before in clocks(program):
        yield {place: before[place][0] for place in places if place in before}


class SureTest(unittest.TestCase):
    def sure(self, program, place, *needs):
        self.assertEqual(sure_names(program, place), list(needs))

    def test_each_kind_of_row(self):
        rows = [give("d"), late("c", -1), give("b", (0, "d"), risky=True), hand("a", 0, "b"), show()]
        self.sure(program_of(rows), (0, 4), (0, "b"), (0, "c"), (0, "d"))

    def test_the_own_part(self):
        program = program_of([give("b"), give("a"), give("c")])
        self.sure(program, (0, 0))
        self.sure(program, (0, 1), (0, "b"))
        self.sure(program, (0, 2), (0, "a"), (0, "b"))

    def test_the_row_itself_and_rows_behind_it(self):
        program = program_of([give("a"), give("a"), late("a", -1)])
        self.sure(program, (0, 0))
        self.sure(program, (0, 1), (0, "a"))
        self.sure(program, (0, 2), (0, "a"))

    def test_a_pass_row_of_the_same_name(self):
        for rows in ([give("a"), hand("a", 0, "b"), show()], [hand("a", 0, "b"), give("a"), show()]):
            self.sure(program_of(rows), (0, 2))
        # It counts behind the row, too.
        self.sure(program_of([give("a"), show(), hand("a", 0, "b")]), (0, 1))
        self.sure(program_of([give("a"), show(), give("a")]), (0, 1), (0, "a"))
        self.sure(program_of([load(1), show()], [give("a"), give("b"), hand("a", 1, "b")]), (0, 1), (1, "b"))

    def test_names_of_ready_parts(self):
        program = program_of([load(1), show(), load(3)], [give("a"), late("b", -1), load(2)], [give("c")], [give("d")])
        self.sure(program, (0, 1), (1, "a"), (1, "b"), (2, "c"))
        self.sure(program, (0, 0))
        self.sure(program, (0, 2), (1, "a"), (1, "b"), (2, "c"))
        self.sure(program, (1, 2), (1, "a"), (1, "b"))

    def test_names_of_parts_that_are_not_ready(self):
        self.sure(program_of([load(1), show()], [give("a"), OUT]), (0, 1))
        self.sure(program_of([load(1), show()], [give("a"), load(0)]), (0, 1))

    def test_a_name_that_nobody_gives(self):
        self.sure(program_of([load(1), show((1, "a"))], []), (0, 1))

    def test_drawn(self):
        found = 0
        for program in drawn_programs(250, 150):
            for place in all_rows(program):
                told = sure_names(program, place)
                self.assertEqual(told, second.sure_names(program, place), (program, place))
                found += len(told) > 1
        self.assertGreater(found, 200)

    def test_sure_names_are_found(self):
        found = 0
        for draw in draws(300):
            program = drawn_small_program(draw, 8)
            sure = {place: sure_names(program, place) for place in all_rows(program)}
            for before in clocks(program):
                for place, (_, names) in before.items():
                    self.assertLessEqual(set(sure[place]), set(names), (program, place))
                    found += len(sure[place])
        self.assertGreater(found, 500)


class WayTest(unittest.TestCase):
    def test_no_way(self):
        program = program_of([load(1), show(), load(2), load(0), hand("a", 3, "a")], [], [], [OUT])
        self.assertIsNone(sure_way(program, (0, 1), 2))
        self.assertIsNone(sure_way(program, (0, 4), 0))
        self.assertIsNone(sure_way(program, (0, 0), 1))
        self.assertIsNone(sure_way(program, (1, 0) if program[0][1] else (0, 4), 3))

    def test_one_row(self):
        program = program_of([load(1), hand("a", 2, "a"), show()], [], [load(1)])
        self.assertEqual(sure_way(program, (0, 2), 1), [(0, 0)])
        self.assertEqual(sure_way(program, (0, 2), 2), [(0, 1)])

    def test_several_rows(self):
        program = program_of([load(1), show()], [give("a"), hand("b", 2, "a")], [load(3)], [])
        self.assertEqual(sure_way(program, (0, 1), 3), [(0, 0), (1, 1), (2, 0)])
        self.assertEqual(sure_way(program, (0, 1), 2), [(0, 0), (1, 1)])

    def test_a_short_way_behind_a_long_one(self):
        program = program_of([load(1), load(3), show()], [load(2)], [load(3)], [])
        self.assertEqual(sure_way(program, (0, 2), 3), [(0, 1)])
        self.assertEqual(sure_way(program, (0, 1), 3), [(0, 0), (1, 0), (2, 0)])

    def test_not_by_a_part_that_is_not_ready(self):
        # Part 1 names part 3 in a row, but it leads back; the way goes by part 2.
        program = program_of([load(1), load(2), show()], [load(3), load(0)], [show(), load(3)], [])
        self.assertEqual(sure_way(program, (0, 2), 3), [(0, 1), (2, 1)])

    def test_drawn(self):
        found = {None: 0, 1: 0, 2: 0}
        for program in drawn_programs(120, 60):
            for place in all_rows(program):
                for part in range(len(program[0])):
                    way = sure_way(program, place, part)
                    self.assertEqual(way is None, part not in ready_parts(program, place))
                    if way is not None:
                        self.assertTrue(second.is_way(program, place, part, way), (program, place, part))
                        self.assertEqual(len(way), second.shortest_way(program, place, part), (program, place, part))
                    found[way if way is None else min(len(way), 2)] += 1
        self.assertGreater(min(found.values()), 10)


class ErrorsTest(unittest.TestCase):
    def test_bad_program(self):
        for thing in STRANGE + [list(EXAMPLE), EXAMPLE[:3]] + [thing for _, thing in spoilt(EXAMPLE)]:
            for place in ((0, 0), None, (9, 9)):
                self.assertRaises(BadProgram, ready_parts, thing, place)
                self.assertRaises(BadProgram, sure_names, thing, place)
                self.assertRaises(BadProgram, sure_way, thing, place, None)

    def test_bad_place(self):
        things = [thing for thing in STRANGE if not (isinstance(thing, tuple) and thing == (0, 0))]
        for thing in things + PLACES + [odd for _, odd in with_odd_objects((0, 0))]:
            self.assertRaises(BadPlace, ready_parts, EXAMPLE, thing)
            self.assertRaises(BadPlace, sure_names, EXAMPLE, thing)
            for part in (0, None, 9):
                self.assertRaises(BadPlace, sure_way, EXAMPLE, thing, part)

    def test_bad_part(self):
        things = [thing for thing in STRANGE if isinstance(thing, bool) or thing not in (0, 1)]
        for thing in things + [2, -1, "0", (0,), [0]] + [odd for _, odd in with_odd_objects(0)]:
            self.assertRaises(BadPart, sure_way, EXAMPLE, (0, 1), thing)
        self.assertIsNone(sure_way(EXAMPLE, (0, 1), 0))


class ResultsTest(unittest.TestCase):
    PROGRAM = program_of([load(1), show(), show()], [give("a"), load(2)], [give("b")])
    CALLS = [(ready_parts, ()), (sure_names, ()), (sure_way, (2,))]

    def test_lists_are_new_and_arguments_stay(self):
        program = copy.deepcopy(self.PROGRAM)
        for function, more in self.CALLS:
            first = function(program, (0, 1), *more)
            self.assertIs(first.__class__, list)
            self.assertEqual(len(first), 2)
            kept = list(first)
            first.clear()
            self.assertEqual(function(program, (0, 1), *more), kept)
        self.assertEqual(program, self.PROGRAM)

    def test_arguments_by_name(self):
        self.assertEqual(ready_parts(place=(0, 1), program=self.PROGRAM), [1, 2])
        self.assertEqual(sure_names(place=(0, 1), program=self.PROGRAM), [(1, "a"), (2, "b")])
        self.assertEqual(sure_way(part=2, place=(0, 1), program=self.PROGRAM), [(0, 0), (1, 1)])

    def test_each_row_of_a_program_with_all_kinds_of_rows(self):
        self.assertEqual([place for place in all_rows(FULL) if ready_parts(FULL, place)], [(0, 3), (0, 4)])
        self.assertEqual(ready_parts(FULL, (0, 3)), [1])


if __name__ == "__main__":
    unittest.main()
