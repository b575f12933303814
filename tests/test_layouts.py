import copy
import unittest

from leanbundle.errors import BadLayout
from leanbundle.runs import layout_events, layout_state
from tests.samples import (BACK, EXAMPLE, FULL, FULL_LAYOUT, FULL_RUN, LACK, OUT, ask, give, hand, late, load,
                           program_of, show, shown, spoilt, told, value)


class LayoutCase(unittest.TestCase):
    def sees(self, program, layout, steps, events, failing=None):
        self.assertEqual(layout_events(program, layout, (steps, failing)), events)

    def stands(self, program, layout, steps, done, stack=(), failing=None):
        self.assertEqual(layout_state(program, layout, (steps, failing)), (tuple(done), tuple(stack)))


class PacksTest(LayoutCase):
    def test_the_example(self):
        layout = ((((0, 0), (0, 1)), ((1, 0),)), ((0, (0, 1)), (1, (1,))))
        self.sees(EXAMPLE, layout, [load(0)], [("show", (1, 0), (((0, 0), ()),))])
        self.sees(EXAMPLE, layout, [load(1)], [("fail", (1, 0))])
        self.stands(EXAMPLE, layout, [load(0), load(1)], [(0, 0), (0, 1), (1, 0)])

    def test_no_steps(self):
        self.sees(FULL, FULL_LAYOUT, [], [])
        self.stands(FULL, FULL_LAYOUT, [], [])

    def test_rows_of_all_six_kinds(self):
        program = program_of([load(1), give("a"), hand("b", 1, "c"), show((0, "b"), (0, "a")), OUT],
                             [late("c", 1, (0, "a")), show()], opens=[(0, "b")])
        rows = ((0, 0), (0, 1), (1, 0), (0, 2), (0, 3), (0, 4))
        layout = ((rows, ((1, 1),)), ((0, (0,)), (1, (1,))))
        steps = [load(0), ask(0, "b"), BACK]
        self.sees(program, layout, steps, [
            shown((0, 3), value((1, 0)), value((0, 1))), ("out", (0, 4)), shown((1, 1)), shown((1, 0), value((0, 1)))])
        self.stands(program, layout, steps[:1], rows, [("door", 0, 1), ("pack", 0, 6)])
        self.stands(program, layout, steps, rows + ((1, 1),))

    def test_rows_stand_in_the_order_of_their_pack(self):
        program = program_of([give("a"), show((0, "a")), show()], [show()])
        layout = ((((0, 2), (1, 0), (0, 1), (0, 0)),), ((0, (0,)),))
        self.sees(program, layout, [load(0)], [shown((0, 2)), shown((1, 0)), ("fail", (0, 1))])
        self.stands(program, layout, [load(0)], [(0, 2), (1, 0), (0, 1)])

    def test_packs_stand_in_the_order_of_the_door(self):
        program = program_of([show(), show()], [show()], entries=(0, 1))
        layout = ((((0, 0),), ((0, 1),), ((1, 0),)), ((0, (2, 0, 1)), (1, (1, 2))))
        self.sees(program, layout, [load(0), load(1)], [shown((1, 0)), shown((0, 0)), shown((0, 1))])
        self.sees(program, layout, [load(1), load(0)], [shown((0, 1)), shown((1, 0)), shown((0, 0))])
        self.stands(program, layout, [load(1), load(0)], [(0, 1), (1, 0), (0, 0)])

    def test_load_and_pass_rows_load_nothing(self):
        program = program_of([load(1), hand("a", 1, "b"), show()], [show(), give("b")], entries=(0, 1), opens=[(0, "a")])
        layout = ((((0, 0), (0, 1), (0, 2)), ((1, 0), (1, 1))), ((0, (0,)), (1, (1,))))
        self.sees(program, layout, [load(0), ask(0, "a"), load(1), ask(0, "a")],
                  [shown((0, 2)), LACK, shown((1, 0)), told((1, 1))])
        self.stands(program, layout, [load(0)], [(0, 0), (0, 1), (0, 2)])

    def test_rows_in_no_pack(self):
        program = program_of([give("a"), show(), show((0, "a"))], opens=[(0, "a")])
        layout = ((((0, 1),),), ((0, (0,)),))
        self.sees(program, layout, [load(0), ask(0, "a")], [shown((0, 1)), LACK])
        self.sees(program, ((), ((0, ()),)), [load(0), BACK, ask(0, "a")], [LACK])
        self.sees(program, ((((0, 0), (0, 1)),), ((0, ()),)), [load(0), ask(0, "a")], [LACK])

    def test_packs_without_rows(self):
        program = program_of([OUT, show()])
        layout = (((), ((0, 0),), (), ((0, 1),)), ((0, (0, 1, 2, 3)),))
        self.stands(program, layout, [load(0)], [(0, 0)], [("door", 0, 2), ("pack", 1, 1)])
        self.sees(program, layout, [load(0), BACK], [("out", (0, 0)), shown((0, 1))])

    def test_a_part_that_is_no_door_is_loaded_by_nobody(self):
        program = program_of([load(1)], [show()])
        self.sees(program, ((((0, 0),), ((1, 0),)), ((0, (0,)),)), [load(0)], [])


class DoorsTest(LayoutCase):
    PROGRAM = program_of([OUT, show()], [OUT, show()], entries=(0, 1))

    def test_a_door_without_numbers(self):
        layout = ((((0, 0),),), ((0, ()), (1, (0,))))
        self.sees(self.PROGRAM, layout, [load(0), load(0)], [])
        self.stands(self.PROGRAM, layout, [load(0)], [])
        self.sees(self.PROGRAM, layout, [load(0), load(1)], [("out", (0, 0))])

    def test_packs_that_doors_share(self):
        layout = ((((0, 1),), ((1, 1),), ((0, 0), (1, 0))), ((0, (0, 2)), (1, (1, 0, 2))))
        self.sees(self.PROGRAM, layout, [load(1), BACK, BACK, load(0)],
                  [shown((1, 1)), shown((0, 1)), ("out", (0, 0)), ("out", (1, 0))])
        self.sees(self.PROGRAM, layout, [load(0), load(1)], [shown((0, 1)), ("out", (0, 0)), shown((1, 1))])
        self.stands(self.PROGRAM, layout, [load(0), load(1)], [(0, 1), (0, 0), (1, 1)], [("door", 0, 2), ("pack", 2, 1)])
        self.stands(self.PROGRAM, layout, [load(1), BACK], [(1, 1), (0, 1), (0, 0), (1, 0)],
                    [("door", 1, 3), ("pack", 2, 2)])

    def test_a_door_loaded_again_does_what_has_not_been_begun(self):
        layout = ((((0, 0), (0, 1)), ((1, 0), (1, 1))), ((0, (0, 1)), (1, (1,))))
        steps = [load(0), load(0)]
        self.sees(self.PROGRAM, layout, steps + [load(0), load(1)], [("out", (0, 0)), ("out", (1, 0))])
        self.stands(self.PROGRAM, layout, steps, [(0, 0), (1, 0)],
                    [("door", 0, 1), ("pack", 0, 1), ("door", 0, 2), ("pack", 1, 1)])
        self.stands(self.PROGRAM, layout, steps + [BACK], [(0, 0), (1, 0), (1, 1)], [("door", 0, 1), ("pack", 0, 1)])
        self.sees(self.PROGRAM, layout, steps + [BACK, BACK],
                  [("out", (0, 0)), ("out", (1, 0)), shown((1, 1)), shown((0, 1))])
        self.stands(self.PROGRAM, layout, steps + [BACK, BACK, load(0)], [(0, 0), (1, 0), (1, 1), (0, 1)])

    def test_the_position_passes_over_packs_that_have_been_begun(self):
        layout = ((((0, 1),), ((0, 0),), ((1, 0),), ((1, 1),)), ((0, (0, 1)), (1, (0, 2, 1, 3))))
        self.stands(self.PROGRAM, layout, [load(1), load(0)], [(0, 1), (1, 0), (0, 0)],
                    [("door", 1, 2), ("pack", 2, 1), ("door", 0, 2), ("pack", 1, 1)])
        self.stands(self.PROGRAM, layout, [load(1), load(0), BACK, BACK], [(0, 1), (1, 0), (0, 0), (1, 1)])

    def test_call_outs_within_packs(self):
        layout = ((((0, 0), (1, 0), (0, 1)), ((1, 1),)), ((0, (0, 1)), (1, (1,))))
        self.sees(self.PROGRAM, layout, [load(0), load(1), BACK, BACK, BACK],
                  [("out", (0, 0)), shown((1, 1)), ("out", (1, 0)), shown((0, 1))])
        self.stands(self.PROGRAM, layout, [load(0), BACK], [(0, 0), (1, 0)], [("door", 0, 1), ("pack", 0, 2)])
        self.stands(self.PROGRAM, layout, [load(0), BACK, BACK], [(0, 0), (1, 0), (0, 1), (1, 1)])


class LateRowsTest(LayoutCase):
    PROGRAM = program_of([late("a", 1, (1, "b")), OUT], [OUT, give("b")], [show()], entries=(0, 1), opens=[(0, "a")])

    def test_a_late_row_loads_a_door(self):
        layout = ((((0, 0), (0, 1)), ((1, 0),), ((2, 0), (1, 1))), ((0, (0,)), (1, (1, 2))))
        steps = [load(0), ask(0, "a")]
        self.stands(self.PROGRAM, layout, steps, [(0, 0), (0, 1), (1, 0)],
                    [("door", 0, 1), ("pack", 0, 2), ("late", (0, 0)), ("door", 1, 1), ("pack", 1, 1)])
        self.sees(self.PROGRAM, layout, steps + [BACK],
                  [("out", (0, 1)), ("out", (1, 0)), shown((2, 0)), shown((0, 0), value((1, 1)))])
        self.stands(self.PROGRAM, layout, steps + [BACK], [(0, 0), (0, 1), (1, 0), (2, 0), (1, 1)],
                    [("door", 0, 1), ("pack", 0, 2)])

    def test_a_late_row_loads_a_door_again(self):
        layout = ((((0, 0),), ((1, 0),), ((1, 1), (0, 1))), ((0, (0,)), (1, (1, 2))))
        steps = [load(0), load(1), ask(0, "a")]
        self.stands(self.PROGRAM, layout, steps, [(0, 0), (1, 0), (1, 1), (0, 1)],
                    [("door", 1, 1), ("pack", 1, 1), ("late", (0, 0)), ("door", 1, 2), ("pack", 2, 2)])
        self.sees(self.PROGRAM, layout, steps + [BACK, BACK],
                  [("out", (1, 0)), ("out", (0, 1)), shown((0, 0), value((1, 1)))])
        self.stands(self.PROGRAM, layout, steps + [BACK, BACK], [(0, 0), (1, 0), (1, 1), (0, 1)])

    def test_a_late_row_whose_door_is_done(self):
        layout = ((((0, 0),), ((1, 1),)), ((0, (0,)), (1, (1,))))
        self.sees(self.PROGRAM, layout, [load(1), load(0), ask(0, "a"), ask(0, "a")],
                  [shown((0, 0), value((1, 1)))] * 2)

    def test_a_late_row_without_a_part(self):
        program = program_of([late("a", -1)], opens=[(0, "a")])
        self.sees(program, ((((0, 0),),), ((0, (0,)),)), [ask(0, "a"), load(0), ask(0, "a")], [LACK, shown((0, 0))])

    def test_a_late_row_with_a_lacking_need(self):
        layout = ((((0, 0),),), ((0, (0,)), (1, ())))
        self.sees(self.PROGRAM, layout, [load(0), ask(0, "a"), ask(0, "a")], [("fail", (0, 0))])
        self.stands(self.PROGRAM, layout, [load(0), ask(0, "a"), load(1)], [(0, 0)])


class FailuresTest(LayoutCase):
    PROGRAM = program_of([OUT, give("a", risky=True), show((0, "a"), risky=True)], [show()], entries=(0, 1), opens=[(0, "a")])
    LAYOUT = ((((0, 0), (0, 1)), ((0, 2), (1, 0))), ((0, (0, 1)), (1, (1,))))

    def test_risky_rows(self):
        steps = [load(0), BACK, ask(0, "a"), load(1)]
        start = [("out", (0, 0))]
        self.sees(self.PROGRAM, self.LAYOUT, steps,
                  start + [shown((0, 2), value((0, 1))), shown((1, 0)), told((0, 1))])
        self.sees(self.PROGRAM, self.LAYOUT, steps, start + [("fail", (0, 1))], failing=(0, 1))
        self.sees(self.PROGRAM, self.LAYOUT, steps, start + [("fail", (0, 2))], failing=(0, 2))
        self.stands(self.PROGRAM, self.LAYOUT, steps, [(0, 0), (0, 1)], failing=(0, 1))
        self.stands(self.PROGRAM, self.LAYOUT, steps, [(0, 0), (0, 1), (0, 2)], failing=(0, 2))

    def test_lacking_needs(self):
        for failing in (None, (0, 1), (0, 2)):
            self.sees(self.PROGRAM, self.LAYOUT, [load(0), load(1), BACK, ask(0, "a")],
                      [("out", (0, 0)), ("fail", (0, 2))], failing=failing)
            self.stands(self.PROGRAM, self.LAYOUT, [load(0), load(1), BACK], [(0, 0), (0, 2)], failing=failing)

    def test_a_failing_row_in_no_pack(self):
        layout = ((((0, 0), (1, 0)),), ((0, (0,)), (1, ())))
        self.sees(self.PROGRAM, layout, [load(0), BACK], [("out", (0, 0)), shown((1, 0))], failing=(0, 1))


class ResultsTest(LayoutCase):
    def test_bad_layout_at_each_spot(self):
        for way, thing in spoilt(FULL_LAYOUT):
            if thing != (FULL_LAYOUT[0] + ((),), FULL_LAYOUT[1]):
                self.assertRaises(BadLayout, layout_events, FULL, thing, FULL_RUN)
                self.assertRaises(BadLayout, layout_state, FULL, thing, ([], None))

    def test_kinds(self):
        self.assertIs(layout_events(FULL, FULL_LAYOUT, FULL_RUN).__class__, list)
        state = layout_state(FULL, FULL_LAYOUT, FULL_RUN)
        self.assertEqual([part.__class__ for part in (state,) + state], [tuple] * 3)

    def test_arguments_by_name(self):
        self.assertEqual(layout_events(run=FULL_RUN, layout=FULL_LAYOUT, program=FULL),
                         layout_events(FULL, FULL_LAYOUT, FULL_RUN))
        self.assertEqual(layout_state(run=FULL_RUN, layout=FULL_LAYOUT, program=FULL),
                         layout_state(FULL, FULL_LAYOUT, FULL_RUN))

    def test_lists_are_new_and_arguments_stay(self):
        run = copy.deepcopy(FULL_RUN)
        first = layout_events(FULL, FULL_LAYOUT, run)
        kept = list(first)
        first.append(None)
        first[0] = None
        layout_state(EXAMPLE, ((), ((0, ()), (1, ()))), ([load(0)], None))
        self.assertEqual(layout_events(FULL, FULL_LAYOUT, run), kept)
        self.assertEqual(run, FULL_RUN)


if __name__ == "__main__":
    unittest.main()
