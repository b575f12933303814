"""Drawn runs: the package and the second telling of the document (tests/model.py) agree."""

import copy
import unittest

from leanbundle.programs import is_layout, is_lot, is_program
from leanbundle.runs import events_of, layout_events, layout_state, state_after
from tests.chance import drawn_layout, drawn_lot, drawn_program, drawn_run, draws
from tests.model import modelled

MANY = 3000


class AgreementTest(unittest.TestCase):
    def test_programs_without_lots(self):
        for draw in draws(MANY):
            program = drawn_program(draw)
            self.assertTrue(is_program(program), program)
            for _ in range(3):
                lot = drawn_lot(draw, program)
                run = drawn_run(draw, program)
                self.assertTrue(is_lot(program, lot), lot)
                events, state = modelled(program, run, lot=lot)
                self.assertEqual(events_of(program, run, lot=lot), events, (program, run, lot))
                self.assertEqual(state_after(program, run, lot=lot), state, (program, run, lot))

    def test_programs(self):
        for draw in draws(MANY):
            program = drawn_program(draw)
            for _ in range(3):
                run = drawn_run(draw, program)
                events, state = modelled(program, run)
                self.assertEqual(events_of(program, run), events, (program, run))
                self.assertEqual(state_after(program, run), state, (program, run))

    def test_layouts(self):
        for draw in draws(MANY):
            program = drawn_program(draw)
            for _ in range(3):
                layout = drawn_layout(draw, program)
                run = drawn_run(draw, program)
                self.assertTrue(is_layout(program, layout), layout)
                events, state = modelled(program, run, layout=layout)
                self.assertEqual(layout_events(program, layout, run), events, (program, layout, run))
                self.assertEqual(layout_state(program, layout, run), state, (program, layout, run))

    def test_equal_calls_and_what_they_are_passed(self):
        for draw in draws(200):
            program = drawn_program(draw)
            lot, layout, run = drawn_lot(draw, program), drawn_layout(draw, program), drawn_run(draw, program)
            kept = copy.deepcopy((program, lot, layout, run))
            first = self.results(program, lot, layout, run)
            # The copies are equal, but no object is the same one.
            self.assertEqual(self.results(*copy.deepcopy(kept)), first)
            self.assertEqual(self.results(program, lot, layout, run), first)
            self.assertEqual((program, lot, layout, run), kept)

    def results(self, program, lot, layout, run):
        return (events_of(program, run, lot=lot), state_after(program, run, lot=lot),
                layout_events(program, layout, run), layout_state(program, layout, run))

    def test_a_state_tells_all_that_can_come(self):
        # Runs to equal states, followed by equal steps, have equal later events and states.
        for draw in draws(150):
            program = drawn_program(draw)
            steps = drawn_run(draw, program)[0]
            behind = {}
            for _ in range(20):
                before = drawn_run(draw, program)[0]
                first = events_of(program, (before, None))
                if not [event for event in first if event[0] == "fail"]:
                    state = state_after(program, (before, None))
                    run = (before + steps, None)
                    later = (events_of(program, run)[len(first):], state_after(program, run))
                    self.assertEqual(behind.setdefault(state, later), later, (program, run))


if __name__ == "__main__":
    unittest.main()
