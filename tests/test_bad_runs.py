import unittest

from leanbundle.errors import BadLayout, BadLot, BadProgram, BadRun
from leanbundle.runs import events_of, layout_events, layout_state, state_after
from tests.samples import (BACK, FULL, FULL_LAYOUT, FULL_RUN, HUGE, OUT, STRANGE, ask, give, load, program_of, show,
                           spoilt, with_odd_objects)

# Entries 0 and 2, one open name of each part; the risky rows are (0, 0), (1, 1) and (2, 0).
PROGRAM = program_of([give("a", risky=True), show()], [OUT, show(risky=True)], [give("a", risky=True)],
                     entries=(0, 2), opens=[(0, "a"), (1, "b")])
LAYOUT = ((), ((0, ()), (2, ())))

NO_STEPS = [thing for thing in STRANGE if thing != ("load", 0)] + [
    load(1), load(3), load(-1), load(HUGE), load(-HUGE), load(True), load(False), load("0"), load(None), ("load", 0, 0),
    ["load", 0], ("Load", 0), (b"load", 0), (load(0),), ask(0, "b"), ask(1, "a"), ask(2, "a"), ask(3, "a"), ask(-1, "a"),
    ask(True, "b"), ask(False, "a"), ask("a", 0), ask(HUGE, "a"), ask(0, None), ask(0, ["a"]), ask(0, "aa"), ("ask", 0),
    ("ask", (0, "a")), ("ask", 0, "a", "a"), ["ask", 0, "a"], ("ask", 0, 0), ("back", 0), ["back"], "back", ("back",) * 2,
    ("backs",), ("out",), ("show", (), False), (None,), (0, 0, "a"), ((), 0)]

NO_FAILING = [thing for thing in STRANGE if thing is not None and not (isinstance(thing, tuple) and thing == (0, 0))] + [
    (0, 1), (1, 0), (1, 2), (2, 1), (3, 0), (-1, 0), (0, -1), (-1, -1), [0, 0], (0, 0, 0), (0,), (False, False), (0, False),
    (True, True), (1, True), (HUGE, 0), (0, HUGE), (-HUGE, 0), ("0", 0), ((0, 0),), ((0, 0), None)]


class BadRunTest(unittest.TestCase):
    def calls(self, program, run):
        return (lambda: events_of(program, run), lambda: state_after(program, run),
                lambda: layout_events(program, LAYOUT, run), lambda: layout_state(program, LAYOUT, run))

    def bad(self, run, place):
        for call in self.calls(PROGRAM, run):
            with self.assertRaises(BadRun) as caught:
                call()
            self.assertEqual(caught.exception.place, place, run)
            self.assertIs(caught.exception.place.__class__, int)

    def good(self, run):
        for call in self.calls(PROGRAM, run):
            call()

    def test_runs(self):
        for failing in (None, (0, 0), (1, 1), (2, 0)):
            self.good(([], failing))
            self.good(([load(0), load(2), ask(0, "a"), ask(1, "b"), BACK, BACK, load(0)], failing))

    def test_no_tuple_of_two_with_a_list_first(self):
        for run in STRANGE + [([],), ([], None, None), [[], None], ((), None), (None, []), (None, None), ("", None),
                              ({}, None), ((load(0),), None), ([load(0)],), [[load(0)], None], (load(0), None)]:
            if not (isinstance(run, tuple) and run == ([], None)):
                self.bad(run, -1)

    def test_entries_that_are_no_steps(self):
        for thing in NO_STEPS:
            self.bad(([thing], None), 0)
            self.bad(([load(0), BACK, thing, load(2)], None), 2)
            self.bad(([load(0)] * 99 + [thing], (0, 0)), 99)

    def test_the_first_entry_that_is_no_step_is_told(self):
        self.bad(([load(0), load(1), load(1), None], None), 1)
        self.bad(([BACK, BACK, BACK, None, load(3)], None), 3)

    def test_steps_behind_a_failure_are_looked_at_too(self):
        self.bad(([load(0), load(2), load(1)], (0, 0)), 2)

    def test_a_hundred_steps_are_let_and_no_more(self):
        for step in (load(0), ask(0, "a"), BACK):
            self.good(([step] * 100, None))
            self.bad(([step] * 101, None), 100)
            self.bad(([step] * 300, None), 100)
        self.bad(([BACK] * 100 + [None], None), 100)
        self.bad(([BACK] * 50 + [None] * 60, None), 50)

    def test_failing_rows_that_are_none(self):
        for thing in NO_FAILING:
            self.bad(([], thing), -1)
            self.bad(([load(0)] * 100, thing), -1)

    def test_the_order(self):
        self.bad(((load(1),), (0, 1)), -1)
        self.bad(([load(1)], (0, 1), None), -1)
        self.bad(([load(1)], (0, 1)), 0)
        self.bad(([load(0)] * 101, None), 100)
        self.bad(([load(0)] * 101, (0, 1)), 100)
        self.bad(([load(0), load(2)], (0, 1)), -1)

    def test_each_spot_asks_for_its_own_kind(self):
        for way, thing in spoilt(FULL_RUN) + with_odd_objects(FULL_RUN):
            place = way[1] if len(way) > 1 and way[0] == 0 else -1
            # Another run, in which nothing fails.
            if way == (1,) and thing[1] is None:
                continue
            for call in (lambda: events_of(FULL, thing), lambda: state_after(FULL, thing),
                         lambda: layout_events(FULL, FULL_LAYOUT, thing),
                         lambda: layout_state(FULL, FULL_LAYOUT, thing)):
                with self.assertRaises(BadRun) as caught:
                    call()
                self.assertEqual(caught.exception.place, place, way)

    def test_a_program_without_open_names_or_risky_rows(self):
        program = program_of([show()])
        with self.assertRaises(BadRun) as caught:
            events_of(program, ([load(0), ask(0, "a")], None))
        self.assertEqual(caught.exception.place, 1)
        with self.assertRaises(BadRun) as caught:
            events_of(program, ([load(0)], (0, 0)))
        self.assertEqual(caught.exception.place, -1)


class OrderOfErrorsTest(unittest.TestCase):
    NO_PROGRAMS = STRANGE + [program_of(*[[]] * 5), list(PROGRAM), PROGRAM[:3]]

    def test_bad_program_goes_first(self):
        for thing in self.NO_PROGRAMS:
            for run in (([], None), None, ([None], None)):
                self.assertRaises(BadProgram, events_of, thing, run)
                self.assertRaises(BadProgram, state_after, thing, run)
                self.assertRaises(BadProgram, events_of, thing, run, lot=None)
                self.assertRaises(BadProgram, state_after, thing, run, lot=None)
                for layout in (LAYOUT, None):
                    self.assertRaises(BadProgram, layout_events, thing, layout, run)
                    self.assertRaises(BadProgram, layout_state, thing, layout, run)

    def test_bad_program_at_each_spot(self):
        for _, thing in spoilt(FULL):
            self.assertRaises(BadProgram, events_of, thing, FULL_RUN)
            self.assertRaises(BadProgram, layout_state, thing, FULL_LAYOUT, FULL_RUN)

    def test_bad_run_goes_ahead_of_bad_lot(self):
        for run, place in ((None, -1), ([load(1)], -1), (([load(0), load(1)], None), 1), (([], (0, 1)), -1)):
            for function in (events_of, state_after):
                with self.assertRaises(BadRun) as caught:
                    function(PROGRAM, run, lot=None)
                self.assertEqual(caught.exception.place, place)
        self.assertRaises(BadLot, events_of, PROGRAM, ([], None), lot=None)
        self.assertRaises(BadLot, state_after, PROGRAM, ([], None), lot=None)

    def test_bad_layout_goes_ahead_of_bad_run(self):
        for function in (layout_events, layout_state):
            for run in (([], None), None, ([None], None)):
                for layout in STRANGE + [((), ()), ((), ((0, ()),)), ((), ((0, (0,)), (2, ()))), [(), LAYOUT[1]]]:
                    self.assertRaises(BadLayout, function, PROGRAM, layout, run)
            self.assertRaises(BadRun, function, PROGRAM, LAYOUT, None)


if __name__ == "__main__":
    unittest.main()
