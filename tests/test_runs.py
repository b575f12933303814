import copy
import unittest

from leanbundle.errors import BadLot
from leanbundle.runs import events_of, state_after
from tests.samples import (BACK, EXAMPLE, FULL, FULL_LOT, FULL_RUN, LACK, OUT, STRANGE, ask, give, hand, late, load,
                           program_of, show, shown, spoilt, told, value)


class RunCase(unittest.TestCase):
    def sees(self, program, steps, events, failing=None, lot=()):
        self.assertEqual(events_of(program, (steps, failing), lot=lot), events)

    def stands(self, program, steps, done, stack=(), failing=None, lot=()):
        self.assertEqual(state_after(program, (steps, failing), lot=lot), (tuple(done), tuple(stack)))


class ExampleTest(RunCase):
    """Promise 43, as far as it tells events."""

    def test_load_of_part_0(self):
        self.sees(EXAMPLE, [load(0)], [("show", (1, 0), (((0, 0), ()),))])
        self.stands(EXAMPLE, [load(0)], [(0, 0), (0, 1), (1, 0)])

    def test_load_of_part_1_first(self):
        self.sees(EXAMPLE, [load(1)], [("fail", (1, 0))])
        self.sees(EXAMPLE, [load(1), load(0)], [("fail", (1, 0))])
        self.stands(EXAMPLE, [load(1), load(0)], [(1, 0)])

    def test_without_the_load_row(self):
        self.sees(EXAMPLE, [load(0)], [], lot=((0, 1),))
        self.sees(EXAMPLE, [load(0), load(1)], [("show", (1, 0), (((0, 0), ()),))], lot=((0, 1),))
        self.sees(EXAMPLE, [load(1)], [("fail", (1, 0))], lot=((0, 1),))


class LoadTest(RunCase):
    def test_no_steps(self):
        self.sees(FULL, [], [])
        self.stands(FULL, [], [])

    def test_rows_are_done_in_order(self):
        program = program_of([show(), give("a"), show((0, "a"))])
        self.sees(program, [load(0)], [shown((0, 0)), shown((0, 2), value((0, 1)))])
        self.stands(program, [load(0)], [(0, 0), (0, 1), (0, 2)])

    def test_a_part_is_begun_once(self):
        program = program_of([show()], [show(), load(0)], entries=(0, 1))
        self.sees(program, [load(0), load(0), load(1), load(1), load(0)], [shown((0, 0)), shown((1, 0))])
        self.stands(program, [load(0), load(0), load(1)], [(0, 0), (1, 0), (1, 1)])

    def test_a_part_that_loads_itself(self):
        program = program_of([show(), load(0), show()])
        self.sees(program, [load(0)], [shown((0, 0)), shown((0, 2))])
        self.stands(program, [load(0)], [(0, 0), (0, 1), (0, 2)])

    def test_parts_that_load_round(self):
        program = program_of([load(1), show()], [load(2), show()], [load(0), show()], entries=(0, 1))
        self.sees(program, [load(0)], [shown((2, 1)), shown((1, 1)), shown((0, 1))])
        self.stands(program, [load(0)], [(0, 0), (1, 0), (2, 0), (2, 1), (1, 1), (0, 1)])
        self.sees(program, [load(1)], [shown((0, 1)), shown((2, 1)), shown((1, 1))])

    def test_a_part_without_rows(self):
        program = program_of([load(1), show()], [], entries=(0, 1))
        self.sees(program, [load(1), load(0)], [shown((0, 1))])
        self.stands(program, [load(1)], [])


class NamesTest(RunCase):
    def test_values_hold_values(self):
        program = program_of([give("a"), give("b", (0, "a")), give("c", (0, "b")), show((0, "c"), (0, "a"))])
        chain = value((0, 2), value((0, 1), value((0, 0))))
        self.sees(program, [load(0)], [shown((0, 3), chain, value((0, 0)))])

    def test_the_same_need_twice(self):
        program = program_of([give("a"), show((0, "a"), (0, "a"))])
        self.sees(program, [load(0)], [shown((0, 1), value((0, 0)), value((0, 0)))])

    def test_a_name_given_again(self):
        program = program_of([give("a"), give("b", (0, "a")), give("a"), show((0, "a"), (0, "b"))], opens=[(0, "a")])
        self.sees(program, [load(0), ask(0, "a")],
                  [shown((0, 3), value((0, 2)), value((0, 1), value((0, 0)))), told((0, 2))])

    def test_a_name_given_again_by_rows_of_each_kind(self):
        rows = [give("a"), late("a", -1), hand("a", 0, "b"), give("b"), OUT]
        for order in ([0, 1, 2], [0, 2, 1], [1, 0, 2], [1, 2, 0], [2, 0, 1], [2, 1, 0]):
            program = program_of([rows[3]] + [rows[at] for at in order], opens=[(0, "a")])
            last = (0, 3)
            event = {0: told(last), 1: shown(last), 2: told((0, 0))}[order[2]]
            self.sees(program, [load(0), ask(0, "a")], [event])

    def test_a_part_has_names_of_its_own(self):
        program = program_of([give("a"), load(1), show((1, "b"))], [give("b"), show((1, "a"))])
        self.sees(program, [load(0)], [("fail", (1, 1))])
        self.stands(program, [load(0)], [(0, 0), (0, 1), (1, 0), (1, 1)])

    def test_a_need_of_itself_is_what_was_given_before(self):
        program = program_of([give("a"), give("a", (0, "a")), show((0, "a"))])
        self.sees(program, [load(0)], [shown((0, 2), value((0, 1), value((0, 0))))])
        self.sees(program_of([give("a", (0, "a"))]), [load(0)], [("fail", (0, 0))])

    def test_asking(self):
        program = program_of([give("a"), give("b", (0, "a"))], opens=[(0, "a"), (0, "b"), (0, "c")])
        self.sees(program, [ask(0, "a"), load(0), ask(0, "b"), ask(0, "a"), ask(0, "c"), ask(0, "b")],
                  [LACK, told((0, 1), value((0, 0))), told((0, 0)), LACK, told((0, 1), value((0, 0)))])
        self.stands(program, [ask(0, "a")], [])


class PassTest(RunCase):
    def test_a_pass_row_loads_and_then_gives(self):
        program = program_of([hand("a", 1, "b"), show((0, "a"))], [show(), give("b")], opens=[(0, "a"), (1, "b")])
        self.sees(program, [load(0), ask(0, "a"), ask(1, "b")],
                  [shown((1, 0)), shown((0, 1), value((1, 1))), told((1, 1)), told((1, 1))])
        self.stands(program, [load(0)], [(1, 0), (1, 1), (0, 0), (0, 1)])

    def test_chains(self):
        program = program_of([hand("a", 1, "b"), show((0, "a"))], [hand("b", 2, "c")], [hand("c", 3, "d")], [give("d")])
        self.sees(program, [load(0)], [shown((0, 1), value((3, 0)))])
        self.stands(program, [load(0)], [(3, 0), (2, 0), (1, 0), (0, 0), (0, 1)])

    def test_a_chain_with_a_lacking_end(self):
        program = program_of([hand("a", 1, "b"), show((0, "a"))], [hand("b", 2, "c")], [], opens=[(0, "a")])
        self.sees(program, [ask(0, "a"), load(0), ask(0, "a")], [LACK, ("fail", (0, 1))])

    def test_another_name_for_itself(self):
        program = program_of([hand("a", 0, "a"), show((0, "a"))], opens=[(0, "a")])
        self.sees(program, [load(0)], [("fail", (0, 1))])
        program = program_of([give("a"), hand("a", 0, "a"), OUT, give("a")], opens=[(0, "a")])
        self.sees(program, [load(0), ask(0, "a"), BACK, ask(0, "a")], [("out", (0, 2)), LACK, told((0, 3))])
        self.stands(program, [load(0), BACK], [(0, 0), (0, 1), (0, 2), (0, 3)])

    def test_names_that_go_round(self):
        program = program_of([hand("a", 1, "b"), show((1, "c"))], [hand("b", 2, "c"), hand("c", 0, "a")],
                             [hand("c", 0, "a")], opens=[(0, "a"), (1, "b"), (2, "c")])
        self.sees(program, [load(0)], [("fail", (0, 1))])
        program = program_of([hand("a", 1, "b")], [hand("b", 0, "a")], opens=[(0, "a"), (1, "b")])
        self.sees(program, [load(0), ask(0, "a"), ask(1, "b")], [LACK, LACK])
        self.stands(program, [load(0)], [(1, 0), (0, 0)])

    def test_a_chain_that_runs_into_a_round(self):
        program = program_of([hand("a", 0, "b"), hand("b", 0, "c"), hand("c", 0, "b"), OUT, give("c")],
                             opens=[(0, "a"), (0, "b"), (0, "c")])
        self.sees(program, [load(0), ask(0, "a"), ask(0, "b"), ask(0, "c"), BACK, ask(0, "a"), ask(0, "b")],
                  [("out", (0, 3)), LACK, LACK, LACK, told((0, 4)), told((0, 4))])

    def test_another_name_stands_for_what_is_given_now(self):
        program = program_of([hand("a", 0, "b"), OUT, give("b"), OUT, give("b")], opens=[(0, "a")])
        self.sees(program, [load(0), ask(0, "a"), BACK, ask(0, "a"), BACK, ask(0, "a")],
                  [("out", (0, 1)), LACK, ("out", (0, 3)), told((0, 2)), told((0, 4))])

    def test_a_value_that_was_looked_up_through_another_name_stays(self):
        program = program_of([give("b"), hand("a", 0, "b"), give("c", (0, "a")), give("b"), show((0, "c"), (0, "a"))])
        self.sees(program, [load(0)], [shown((0, 4), value((0, 2), value((0, 0))), value((0, 3)))])

    def test_a_pass_row_of_a_part_that_is_under_way(self):
        program = program_of([load(1), give("a")], [hand("b", 0, "a"), show((1, "b"))], entries=(0, 1))
        self.sees(program, [load(0)], [("fail", (1, 1))])
        self.stands(program, [load(0)], [(0, 0), (1, 0), (1, 1)])
        self.sees(program, [load(1)], [shown((1, 1), value((0, 1)))])
        self.stands(program, [load(1)], [(0, 0), (0, 1), (1, 0), (1, 1)])

    def test_a_pass_row_that_waits(self):
        program = program_of([give("a"), hand("a", 1, "b"), show((0, "a"))], [give("b"), OUT], opens=[(0, "a")])
        self.sees(program, [load(0), ask(0, "a"), BACK, ask(0, "a")],
                  [("out", (1, 1)), told((0, 0)), shown((0, 2), value((1, 0))), told((1, 0))])
        self.stands(program, [load(0)], [(0, 0), (1, 0), (1, 1)], [("part", 0, 2), ("part", 1, 2)])
        self.stands(program, [load(0), BACK], [(0, 0), (1, 0), (1, 1), (0, 1), (0, 2)])

    def test_a_pass_row_that_waits_when_something_fails(self):
        program = program_of([hand("a", 1, "b")], [show((1, "b"))], opens=[(0, "a")])
        self.stands(program, [load(0), ask(0, "a")], [(1, 0)])


class LateTest(RunCase):
    def test_looked_up(self):
        program = program_of([late("a", 1, (0, "d")), show((0, "a")), give("b", (0, "a")), show((0, "b"))], [show()])
        self.sees(program, [load(0)], [shown((0, 1), value((0, 0))), shown((0, 3), value((0, 2), value((0, 0))))])
        self.stands(program, [load(0)], [(0, 0), (0, 1), (0, 2), (0, 3)])

    def test_asked_for_without_a_part(self):
        program = program_of([give("b"), late("a", -1, (0, "b"), (0, "a")), late("c", -1)], opens=[(0, "a"), (0, "c")])
        self.sees(program, [load(0), ask(0, "a"), ask(0, "c"), ask(0, "a")],
                  [shown((0, 1), value((0, 0)), value((0, 1))), shown((0, 2)), shown((0, 1), value((0, 0)), value((0, 1)))])
        self.stands(program, [load(0), ask(0, "a"), ask(0, "c")], [(0, 0), (0, 1), (0, 2)])

    def test_asked_for_with_a_part(self):
        program = program_of([late("a", 1, (1, "b"))], [show(), give("b")], opens=[(0, "a")])
        self.sees(program, [ask(0, "a"), load(0), ask(0, "a"), ask(0, "a")],
                  [LACK, shown((1, 0)), shown((0, 0), value((1, 1))), shown((0, 0), value((1, 1)))])
        self.stands(program, [load(0)], [(0, 0)])
        self.stands(program, [load(0), ask(0, "a")], [(0, 0), (1, 0), (1, 1)])

    def test_needs_are_looked_up_when_it_is_asked_for(self):
        program = program_of([late("a", -1, (0, "b")), OUT, give("b"), OUT, give("b")], opens=[(0, "a")])
        self.sees(program, [load(0), BACK, ask(0, "a"), BACK, ask(0, "a")],
                  [("out", (0, 1)), ("out", (0, 3)), shown((0, 0), value((0, 2))), shown((0, 0), value((0, 4)))])

    def test_a_lacking_need(self):
        program = program_of([late("a", 1, (1, "a"), (1, "b"))], [show(), give("a")], opens=[(0, "a")])
        self.sees(program, [load(0), ask(0, "a"), ask(0, "a"), load(0)], [shown((1, 0)), ("fail", (0, 0))])
        self.stands(program, [load(0), ask(0, "a"), ask(0, "a")], [(0, 0), (1, 0), (1, 1)])

    def test_asked_for_by_another_name(self):
        program = program_of([hand("a", 1, "b"), hand("c", 0, "a")], [late("b", 2)], [show()], opens=[(0, "c")])
        self.sees(program, [load(0), ask(0, "c"), ask(0, "c")], [shown((2, 0)), shown((1, 0)), shown((1, 0))])
        self.stands(program, [load(0), ask(0, "c")], [(1, 0), (0, 0), (0, 1), (2, 0)])

    def test_its_part_is_loaded_already(self):
        program = program_of([late("a", 1)], [show()], entries=(0, 1), opens=[(0, "a")])
        self.sees(program, [load(1), load(0), ask(0, "a")], [shown((1, 0)), shown((0, 0))])

    def test_its_part_is_under_way(self):
        program = program_of([late("a", 0, (0, "b")), late("c", 0), OUT, give("b")], opens=[(0, "a"), (0, "c")])
        self.sees(program, [load(0), ask(0, "c"), ask(0, "a"), BACK], [("out", (0, 2)), shown((0, 1)), ("fail", (0, 0))])
        self.sees(program, [load(0), BACK, ask(0, "a")], [("out", (0, 2)), shown((0, 0), value((0, 3)))])
        self.stands(program, [load(0), ask(0, "c")], [(0, 0), (0, 1), (0, 2)], [("part", 0, 3)])

    def test_its_part_calls_out(self):
        program = program_of([late("a", 1, (1, "b"))], [OUT, give("b")], opens=[(0, "a"), (1, "b")])
        steps = [load(0), ask(0, "a")]
        self.sees(program, steps + [ask(1, "b"), BACK], [("out", (1, 0)), LACK, shown((0, 0), value((1, 1)))])
        self.stands(program, steps, [(0, 0), (1, 0)], [("late", (0, 0)), ("part", 1, 1)])
        self.stands(program, steps + [BACK], [(0, 0), (1, 0), (1, 1)])

    def test_asked_for_again_amid_the_call_out_of_its_part(self):
        program = program_of([late("a", 1)], [OUT, show()], opens=[(0, "a")])
        steps = [load(0), ask(0, "a"), ask(0, "a")]
        self.sees(program, steps + [BACK, ask(0, "a")],
                  [("out", (1, 0)), shown((0, 0)), shown((1, 1)), shown((0, 0)), shown((0, 0))])
        self.stands(program, steps, [(0, 0), (1, 0)], [("late", (0, 0)), ("part", 1, 1)])

    def test_a_part_behind_its_part_calls_out(self):
        program = program_of([late("a", 1)], [load(2), show()], [show(), OUT], opens=[(0, "a")])
        steps = [load(0), ask(0, "a")]
        self.sees(program, steps + [BACK], [shown((2, 0)), ("out", (2, 1)), shown((1, 1)), shown((0, 0))])
        self.stands(program, steps, [(0, 0), (1, 0), (2, 0), (2, 1)], [("late", (0, 0)), ("part", 1, 1), ("part", 2, 2)])

    def test_its_name_is_given_again_while_its_part_is_loaded(self):
        program = program_of([late("a", 1, (0, "a")), OUT, give("a")], [load(0), OUT], opens=[(0, "a")])
        self.sees(program, [load(0), ask(0, "a"), BACK, BACK, ask(0, "a")],
                  [("out", (0, 1)), ("out", (1, 1)), shown((0, 0), value((0, 0))), told((0, 2))])

    def test_a_late_row_amid_another_one(self):
        program = program_of([late("a", 1), late("b", 2)], [OUT], [OUT], opens=[(0, "a"), (0, "b")])
        steps = [load(0), ask(0, "a"), ask(0, "b")]
        self.stands(program, steps, [(0, 0), (0, 1), (1, 0), (2, 0)],
                    [("late", (0, 0)), ("part", 1, 1), ("late", (0, 1)), ("part", 2, 1)])
        self.stands(program, steps + [BACK], [(0, 0), (0, 1), (1, 0), (2, 0)], [("late", (0, 0)), ("part", 1, 1)])
        self.sees(program, steps + [BACK, BACK, BACK], [("out", (1, 0)), ("out", (2, 0)), shown((0, 1)), shown((0, 0))])


class FailTest(RunCase):
    def test_lacking_needs(self):
        for row in (give("b", (0, "a")), show((0, "a")), show((0, "c"), (0, "a")), show((0, "a"), (0, "c"))):
            program = program_of([give("c"), row, show()], entries=(0,), opens=[(0, "b"), (0, "c")])
            self.sees(program, [load(0), ask(0, "c"), ask(0, "b"), load(0), BACK], [("fail", (0, 1))])
            self.stands(program, [load(0), ask(0, "c")], [(0, 0), (0, 1)])

    def test_nothing_is_done_behind_a_failure(self):
        program = program_of([load(1), show()], [hand("a", 2, "a"), show()], [OUT, show((2, "a")), show()], entries=(0, 1, 2))
        self.sees(program, [load(0), BACK, BACK, load(1), load(2)], [("out", (2, 0)), ("fail", (2, 1))])
        self.stands(program, [load(0)], [(0, 0), (2, 0)], [("part", 0, 1), ("part", 1, 1), ("part", 2, 1)])
        self.stands(program, [load(0), BACK], [(0, 0), (2, 0), (2, 1)])
        self.stands(program, [load(0), BACK, BACK, load(1), load(2)], [(0, 0), (2, 0), (2, 1)])

    def test_a_failure_amid_call_outs_ends_all(self):
        program = program_of([OUT, show()], [show((0, "a"))], entries=(0, 1), opens=[(0, "a")])
        self.sees(program, [load(0), load(1), BACK, ask(0, "a"), load(0)], [("out", (0, 0)), ("fail", (1, 0))])
        self.stands(program, [load(0), load(1), BACK], [(0, 0), (1, 0)])

    def test_risky_rows(self):
        program = program_of([show(risky=True), give("a", risky=True), show((0, "a"), risky=True)], opens=[(0, "a")])
        steps = [load(0), ask(0, "a")]
        last = shown((0, 2), value((0, 1)))
        self.sees(program, steps, [shown((0, 0)), last, told((0, 1))])
        self.sees(program, steps, [("fail", (0, 0))], failing=(0, 0))
        self.sees(program, steps, [shown((0, 0)), ("fail", (0, 1))], failing=(0, 1))
        self.sees(program, steps, [shown((0, 0)), ("fail", (0, 2))], failing=(0, 2))
        self.stands(program, steps, [(0, 0)], failing=(0, 0))
        self.stands(program, steps, [(0, 0), (0, 1)], failing=(0, 1))
        self.stands(program, steps, [(0, 0), (0, 1), (0, 2)], failing=(0, 2))

    def test_a_lacking_need_goes_ahead_of_the_risk(self):
        for row in (give("b", (0, "a"), risky=True), show((0, "a"), risky=True)):
            program = program_of([row, show()])
            for failing in (None, (0, 0)):
                self.sees(program, [load(0)], [("fail", (0, 0))], failing=failing)
                self.stands(program, [load(0)], [(0, 0)], failing=failing)

    def test_a_risk_that_is_not_come_to(self):
        program = program_of([show(), OUT], [show(risky=True)], [show((0, "a")), show(risky=True)], entries=(0, 1, 2))
        self.sees(program, [load(0), BACK], [shown((0, 0)), ("out", (0, 1))], failing=(1, 0))
        self.sees(program, [load(2)], [("fail", (2, 0))], failing=(2, 1))
        self.sees(program, [load(0), load(1)], [shown((0, 0)), ("out", (0, 1)), ("fail", (1, 0))], failing=(1, 0))
        self.sees(program, [load(0), load(1)], [shown((0, 0)), ("out", (0, 1)), shown((1, 0))], failing=(2, 1))

    def test_a_failing_row_that_gives_a_need(self):
        program = program_of([load(1), show((1, "a"))], [give("a", risky=True)], entries=(0, 1), opens=[(1, "a")])
        self.sees(program, [load(0), ask(1, "a")], [("fail", (1, 0))], failing=(1, 0))
        self.stands(program, [load(0), ask(1, "a")], [(0, 0), (1, 0)], failing=(1, 0))


class OutTest(RunCase):
    def test_a_call_out(self):
        program = program_of([show(), OUT, show()])
        self.sees(program, [load(0)], [shown((0, 0)), ("out", (0, 1))])
        self.stands(program, [load(0)], [(0, 0), (0, 1)], [("part", 0, 2)])
        self.sees(program, [load(0), load(0), BACK], [shown((0, 0)), ("out", (0, 1)), shown((0, 2))])
        self.stands(program, [load(0), BACK], [(0, 0), (0, 1), (0, 2)])

    def test_back_without_a_call_out(self):
        program = program_of([show(), OUT])
        self.sees(program, [BACK, load(0), BACK, BACK, BACK], [shown((0, 0)), ("out", (0, 1))])
        self.stands(program, [BACK], [])
        self.stands(program, [BACK, load(0), BACK, BACK], [(0, 0), (0, 1)])

    def test_a_call_out_as_the_last_row(self):
        program = program_of([OUT], [load(0)], entries=(0, 1))
        self.stands(program, [load(1)], [(1, 0), (0, 0)], [("part", 1, 1), ("part", 0, 1)])
        self.stands(program, [load(1), BACK], [(1, 0), (0, 0)])

    def test_two_call_outs_of_a_part(self):
        program = program_of([OUT, OUT, show()])
        self.sees(program, [load(0), BACK], [("out", (0, 0)), ("out", (0, 1))])
        self.stands(program, [load(0)], [(0, 0)], [("part", 0, 1)])
        self.stands(program, [load(0), BACK], [(0, 0), (0, 1)], [("part", 0, 2)])
        self.sees(program, [load(0), BACK, BACK], [("out", (0, 0)), ("out", (0, 1)), shown((0, 2))])

    def test_call_outs_amid_call_outs(self):
        program = program_of([OUT, show()], [OUT, show()], [show()], entries=(0, 1, 2))
        self.sees(program, [load(0), load(1), load(2), BACK, BACK, BACK],
                  [("out", (0, 0)), ("out", (1, 0)), shown((2, 0)), shown((1, 1)), shown((0, 1))])
        self.stands(program, [load(0), load(1), load(2)], [(0, 0), (1, 0), (2, 0)], [("part", 0, 1), ("part", 1, 1)])
        self.stands(program, [load(0), load(1), BACK], [(0, 0), (1, 0), (1, 1)], [("part", 0, 1)])
        self.stands(program, [load(0), load(1), BACK, BACK], [(0, 0), (1, 0), (1, 1), (0, 1)])

    def test_a_load_of_what_is_under_way(self):
        program = program_of([load(1), give("a"), OUT], [load(0), OUT, show((0, "a"))], entries=(0, 1), opens=[(0, "a")])
        self.sees(program, [load(0), load(0), load(1), ask(0, "a"), BACK], [("out", (1, 1)), LACK, ("fail", (1, 2))])
        self.sees(program, [load(1), load(0), ask(0, "a"), BACK, BACK],
                  [("out", (0, 2)), told((0, 1)), ("out", (1, 1)), shown((1, 2), value((0, 1)))])
        self.stands(program, [load(0), load(0), load(1)], [(0, 0), (1, 0), (1, 1)], [("part", 0, 1), ("part", 1, 2)])

    def test_what_goes_on_loads_and_calls_out(self):
        program = program_of([OUT, load(1), show()], [show(), OUT, show()])
        self.sees(program, [load(0), BACK], [("out", (0, 0)), shown((1, 0)), ("out", (1, 1))])
        self.stands(program, [load(0), BACK], [(0, 0), (0, 1), (1, 0), (1, 1)], [("part", 0, 2), ("part", 1, 2)])
        self.sees(program, [load(0), BACK, BACK], [("out", (0, 0)), shown((1, 0)), ("out", (1, 1)), shown((1, 2)), shown((0, 2))])

    def test_users_can_make_a_need_be_found(self):
        program = program_of([OUT, show((1, "a"))], [give("a")], entries=(0, 1))
        self.sees(program, [load(0), BACK], [("out", (0, 0)), ("fail", (0, 1))])
        self.sees(program, [load(0), load(1), BACK], [("out", (0, 0)), shown((0, 1), value((1, 0)))])


class LotTest(RunCase):
    PROGRAM = program_of(
        [give("a"), hand("b", 1, "b"), load(2), show((0, "a"))], [give("b"), show(risky=True)], [OUT, late("c", -1)],
        opens=[(0, "a"), (0, "b"), (1, "b"), (2, "c")])

    def test_each_kind_of_row_left_out(self):
        steps = [load(0), ask(0, "a"), ask(0, "b"), BACK, ask(2, "c")]
        whole = [shown((1, 1)), ("out", (2, 0)), told((0, 0)), told((1, 0)), shown((0, 3), value((0, 0))), shown((2, 1))]
        self.sees(self.PROGRAM, steps, whole)
        for place, events in {
                (0, 0): whole[:2] + [LACK, told((1, 0)), ("fail", (0, 3))],
                (0, 1): whole[1:3] + [LACK] + whole[4:],
                (0, 2): [shown((1, 1)), shown((0, 3), value((0, 0))), told((0, 0)), told((1, 0)), LACK],
                (0, 3): whole[:4] + whole[5:],
                (1, 0): whole[:3] + [LACK] + whole[4:],
                (1, 1): whole[1:],
                (2, 0): [shown((1, 1)), shown((0, 3), value((0, 0))), told((0, 0)), told((1, 0)), shown((2, 1))],
                (2, 1): whole[:5] + [LACK]}.items():
            self.sees(self.PROGRAM, steps, events, lot=(place,))

    def test_rows_left_out_are_not_done_and_the_others_keep_their_places(self):
        lot = ((0, 0), (1, 0), (2, 1))
        self.stands(self.PROGRAM, [load(0)], [(1, 1), (0, 1), (0, 2), (2, 0)], [("part", 0, 3), ("part", 2, 1)], lot=lot)

    def test_the_index_is_that_of_the_row_whose_turn_came_last(self):
        program = program_of([show(), load(1), show(), show()], [show(), OUT, show()])
        self.stands(program, [load(0)], [(0, 1), (1, 1)], [("part", 0, 2), ("part", 1, 2)],
                    lot=((0, 0), (0, 2), (0, 3), (1, 0), (1, 2)))

    def test_all_rows_left_out(self):
        lot = ((0, 0), (0, 1), (1, 0))
        self.sees(EXAMPLE, [load(0), load(1), BACK], [], lot=lot)
        self.stands(EXAMPLE, [load(0), load(1), BACK], [], lot=lot)

    def test_a_name_given_again_is_left_out(self):
        program = program_of([give("a"), give("a")], opens=[(0, "a")])
        self.sees(program, [load(0), ask(0, "a")], [told((0, 0))], lot=((0, 1),))
        self.sees(program, [load(0), ask(0, "a")], [told((0, 1))], lot=((0, 0),))

    def test_the_failing_row_left_out(self):
        self.sees(self.PROGRAM, [load(0)], [("fail", (1, 1))], failing=(1, 1))
        self.sees(self.PROGRAM, [load(0)], [("out", (2, 0))], failing=(1, 1), lot=((1, 1),))

    def test_the_part_of_a_late_row_without_rows(self):
        program = program_of([late("a", 1, (1, "b"))], [show(), give("b")], opens=[(0, "a")])
        self.sees(program, [load(0), ask(0, "a")], [shown((0, 0), value((1, 1)))], lot=((1, 0),))
        self.sees(program, [load(0), ask(0, "a")], [shown((1, 0)), ("fail", (0, 0))], lot=((1, 1),))

    def test_an_empty_lot_is_the_program(self):
        self.assertEqual(events_of(FULL, FULL_RUN, lot=()), events_of(FULL, FULL_RUN))
        self.assertEqual(state_after(FULL, FULL_RUN, lot=()), state_after(FULL, FULL_RUN))

    def test_bad_lot(self):
        lots = [thing for thing in STRANGE if not (isinstance(thing, tuple) and thing == ())]
        lots += [((0, 9),), ((0, 1), (0, 0)), ((0, 0), (0, 0)), [(0, 0)]] + [thing for _, thing in spoilt(FULL_LOT)]
        for lot in lots:
            self.assertRaises(BadLot, events_of, FULL, FULL_RUN, lot=lot)
            self.assertRaises(BadLot, state_after, FULL, ([], None), lot=lot)

    def test_the_lot_is_passed_by_name_only(self):
        self.assertRaises(TypeError, lambda: events_of(FULL, FULL_RUN, ()))
        self.assertRaises(TypeError, lambda: state_after(FULL, FULL_RUN, ()))


class ResultsTest(RunCase):
    def test_kinds(self):
        self.assertIs(events_of(FULL, FULL_RUN).__class__, list)
        state = state_after(FULL, ([load(0)], None))
        self.assertIs(state.__class__, tuple)
        self.assertEqual([part.__class__ for part in state], [tuple, tuple])

    def test_arguments_by_name(self):
        self.assertEqual(events_of(run=FULL_RUN, program=FULL, lot=FULL_LOT), events_of(FULL, FULL_RUN, lot=FULL_LOT))
        self.assertEqual(state_after(lot=FULL_LOT, run=FULL_RUN, program=FULL), state_after(FULL, FULL_RUN, lot=FULL_LOT))

    def test_lists_are_new_and_arguments_stay(self):
        run = copy.deepcopy(FULL_RUN)
        for function in (events_of, state_after):
            first = function(FULL, run)
            kept = copy.deepcopy(first)
            if isinstance(first, list):
                first.append(None)
                first[0] = None
            function(EXAMPLE, ([load(1)], None))
            self.assertEqual(function(FULL, run), kept)
        self.assertEqual(run, FULL_RUN)

    def test_steps_may_be_changed_behind_the_call(self):
        steps = [load(0)]
        events = events_of(EXAMPLE, (steps, None))
        state = state_after(EXAMPLE, (steps, None))
        steps.append(load(1))
        self.assertEqual(events, [("show", (1, 0), (((0, 0), ()),))])
        self.assertEqual(state, (((0, 0), (0, 1), (1, 0)), ()))


if __name__ == "__main__":
    unittest.main()
