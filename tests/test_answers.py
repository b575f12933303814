"""Promises 15, 16, 3, 19 and 43: what answer_to tells."""

import copy
import unittest

from leanbundle.answers import answer_holds, answer_to, paper_holds
from leanbundle.runs import events_of, layout_state
from tests.samples import (BACK, EXAMPLE, FULL, FULL_LAYOUT, FULL_LOT, ITSELF, OUT, START, after, ask, give, hand,
                           late, load, program_of, show)

EXAMPLE_LAYOUT = ((((0, 0), (0, 1)), ((1, 0),)), ((0, (0, 1)), (1, (1,))))


class AnswerCase(unittest.TestCase):
    def same(self, program, made, pairs=None):
        answer = answer_to(program, made)
        self.assertEqual((answer.__class__, len(answer), answer[0]), (tuple, 2, "same"), answer)
        self.assertIs(answer[1].__class__, list)
        if pairs is not None:
            self.assertEqual(answer[1], pairs)
        self.assertTrue(answer_holds(program, made, answer))
        self.assertTrue(paper_holds(program, made, answer[1]))

    def other(self, program, made, *runs):
        """The answer is one of these runs, which are all that are as short as any."""
        answer = answer_to(program, made)
        self.assertEqual((answer.__class__, len(answer), answer[0]), (tuple, 2, "other"), answer)
        self.assertIn(answer[1], list(runs))
        self.assertEqual([part.__class__ for part in answer[1][:1]], [list])
        for run in runs:
            self.assertTrue(answer_holds(program, made, ("other", run)), run)
        self.assertFalse(paper_holds(program, made, [(START, START)]))


class ExampleTest(AnswerCase):
    """Promise 43, as far as it tells answers."""

    def test_without_the_load_row(self):
        self.other(EXAMPLE, ("lot", ((0, 1),)), ([load(0)], None))

    def test_the_layout(self):
        done = after((0, 0), (0, 1), (1, 0))
        self.same(EXAMPLE, ("layout", EXAMPLE_LAYOUT), [(START, START), (done, done)])


class LotTest(AnswerCase):
    def test_nothing_is_left_out(self):
        self.same(EXAMPLE, ITSELF, [(START, START), (after((0, 0), (0, 1), (1, 0)), after((0, 0), (0, 1), (1, 0)))])
        self.same(program_of([]), ITSELF, [(START, START)])
        self.same(FULL, ITSELF)

    def test_a_row_that_nobody_needs(self):
        program = program_of([give("a"), show()], opens=[(0, "b")])
        self.same(program, ("lot", ((0, 0),)), [(START, START), (after((0, 0), (0, 1)), after((0, 1)))])
        self.other(program, ("lot", ((0, 1),)), ([load(0)], None))

    def test_an_open_name(self):
        program = program_of([give("a"), show()], opens=[(0, "a")])
        self.other(program, ("lot", ((0, 0),)), ([load(0), ask(0, "a")], None))

    def test_a_load_row_whose_part_shows_nothing(self):
        program = program_of([load(1), show()], [give("a")], entries=(0, 1))
        both, alone = after((0, 0), (1, 0), (0, 1)), after((0, 0), (1, 0))
        self.assertEqual(alone[0], both[0][:2])
        self.same(program, ("lot", ((0, 0),)),
                  [(START, START), (both, after((0, 1))), (both, after((0, 1), (1, 0))),
                   (after((1, 0)), after((1, 0))), (after((1, 0), (0, 0), (0, 1)), after((1, 0), (0, 1)))])

    def test_a_lacking_need_in_both(self):
        program = program_of([give("b"), show((0, "a")), show()])
        self.same(program, ("lot", ((0, 0), (0, 2))), [(START, START)])
        self.other(program, ("lot", ((0, 1),)), ([load(0)], None))

    def test_a_need_that_lacks_without_the_row(self):
        program = program_of([give("a"), late("b", -1, (0, "a"))], opens=[(0, "b")])
        self.other(program, ("lot", ((0, 0),)), ([load(0), ask(0, "b")], None))

    def test_two_lots_apart_and_together(self):
        # Promise 19: each of two rows gives the name alike; one of them has to stay.
        program = program_of([give("a"), hand("b", 0, "a"), hand("b", 0, "a"), show((0, "b"))])
        self.same(program, ("lot", ((0, 1),)))
        self.same(program, ("lot", ((0, 2),)))
        self.other(program, ("lot", ((0, 1), (0, 2))), ([load(0)], None))

    def test_a_part_of_a_harmless_lot(self):
        # Promise 19: without the first row alone the second one fails.
        program = program_of([give("a"), give("b", (0, "a"))])
        self.same(program, ("lot", ((0, 0), (0, 1))))
        self.same(program, ("lot", ((0, 1),)))
        self.other(program, ("lot", ((0, 0),)), ([load(0)], None))


class CallOutTest(AnswerCase):
    PROGRAM = program_of([give("a"), OUT, give("a"), show()])

    def test_states_in_which_a_call_out_has_not_ended(self):
        amid = (((0, 0), (0, 1)), (("part", 0, 2),))
        behind = after((0, 0), (0, 1), (0, 2), (0, 3))
        self.same(self.PROGRAM, ITSELF, [(START, START), (amid, amid), (behind, behind)])
        self.same(self.PROGRAM, ("lot", ((0, 0),)),
                  [(START, START), (amid, (((0, 1),), (("part", 0, 2),))), (behind, after((0, 1), (0, 2), (0, 3)))])

    def test_a_name_asked_for_amid_a_call_out(self):
        program = self.PROGRAM[:3] + (((0, "a"),),)
        self.other(program, ("lot", ((0, 0),)), ([load(0), ask(0, "a")], None))
        self.other(program, ("lot", ((0, 2),)), ([load(0), BACK, ask(0, "a")], None))

    def test_a_part_loaded_amid_a_call_out(self):
        program = program_of([OUT, give("a")], [show((0, "a"))], entries=(0, 1))
        straight = program_of([OUT, give("a")], [show()], entries=(0, 1))
        self.other(program, ("program", straight, ()), ([load(1)], None))
        program = program_of([give("b"), OUT, give("a"), load(1)], [show((0, "b"))], entries=(0, 1), opens=[(0, "a")])
        layout = ((((0, 0), (0, 1), (0, 2), (0, 3), (1, 0)),), ((0, (0,)), (1, ())))
        self.other(program, ("layout", layout), ([load(1)], None))

    def test_only_a_user_amid_a_call_out_can_tell(self):
        program = program_of([give("a"), OUT, give("a")], opens=[(0, "a")])
        twice = program_of([give("b"), OUT, give("a")], opens=[(0, "a")])
        self.other(program, ("program", twice, ()), ([load(0), ask(0, "a")], None))

    def test_nested_calls(self):
        program = program_of([OUT, show()], [OUT, give("a")], entries=(0, 1))
        first, second = (((0, 0),), (("part", 0, 1),)), (((1, 0),), (("part", 1, 1),))
        both = (((0, 0), (1, 0)), (("part", 0, 1), ("part", 1, 1)))
        answer = answer_to(program, ("lot", ((1, 1),)))
        for pair in ((first, first), (second, second), (both, both),
                     ((((0, 0), (1, 0), (1, 1)), (("part", 0, 1),)), (((0, 0), (1, 0)), (("part", 0, 1),)))):
            self.assertIn(pair, answer[1])
        self.same(program, ("lot", ((1, 1),)))

    def test_something_late_amid_a_call_out_of_its_part(self):
        program = program_of([late("a", 1)], [OUT, give("b")], opens=[(0, "a")])
        amid = (((0, 0), (1, 0)), (("late", (0, 0)), ("part", 1, 1)))
        self.same(program, ("lot", ((1, 1),)),
                  [(START, START), (after((0, 0)), after((0, 0))), (amid, amid),
                   (after((0, 0), (1, 0), (1, 1)), after((0, 0), (1, 0)))])
        self.other(program, ("lot", ((1, 0),)), ([load(0), ask(0, "a")], None))

    def test_a_call_out_of_which_nothing_but_the_step_back_tells(self):
        program = program_of([OUT, show()])
        self.other(program, ("lot", ((0, 1),)), ([load(0), BACK], None))


class LayoutTest(AnswerCase):
    def test_doors_and_packs_on_the_stack(self):
        program = program_of([give("a"), OUT, load(1)], [show((0, "a"))])
        layout = ((((0, 0), (0, 1), (0, 2), (1, 0)),), ((0, (0,)),))
        amid = (((0, 0), (0, 1)), (("part", 0, 2),))
        laid = (((0, 0), (0, 1)), (("door", 0, 1), ("pack", 0, 2)))
        done = after((0, 0), (0, 1), (0, 2), (1, 0))
        self.same(program, ("layout", layout), [(START, START), (amid, laid), (done, done)])
        self.assertEqual(layout_state(program, layout, ([load(0)], None)), laid)

    def test_a_door_loaded_again_amid_its_packs(self):
        program = program_of([give("a"), OUT, load(1)], [show((0, "a"))])
        layout = ((((0, 0), (0, 1)), ((0, 2), (1, 0))), ((0, (0, 1)),))
        self.other(program, ("layout", layout), ([load(0), load(0)], None))
        quiet = program_of([give("a"), OUT, load(1)], [give("b", (0, "a"))])
        amid = (((0, 0), (0, 1)), (("part", 0, 2),))
        laid = (((0, 0), (0, 1)), (("door", 0, 1), ("pack", 0, 2)))
        again = (((0, 0), (0, 1), (0, 2), (1, 0)), (("door", 0, 1), ("pack", 0, 2)))
        done = after((0, 0), (0, 1), (0, 2), (1, 0))
        self.same(quiet, ("layout", layout), [(START, START), (amid, laid), (amid, again), (done, done)])

    def test_packs_in_another_order(self):
        layout = (EXAMPLE_LAYOUT[0], ((0, (1, 0)), (1, (1,))))
        self.other(EXAMPLE, ("layout", layout), ([load(0)], None))

    def test_a_row_in_no_pack(self):
        layout = ((((0, 0),), ((1, 0),)), ((0, (0, 1)), (1, (1,))))
        self.same(EXAMPLE, ("layout", layout))
        self.other(EXAMPLE, ("layout", (((), ((1, 0),)), EXAMPLE_LAYOUT[1])), ([load(0)], None))

    def test_a_door_that_does_too_much(self):
        program = program_of([show()], [show()], entries=(0, 1))
        layout = ((((0, 0), (1, 0)),), ((0, (0,)), (1, (0,))))
        self.other(program, ("layout", layout), ([load(0)], None), ([load(1)], None))

    def test_a_door_that_is_loaded_by_something_late(self):
        program = program_of([late("a", 1)], [show()], opens=[(0, "a")])
        layout = ((((1, 0),), ((0, 0),)), ((0, (1,)), (1, (0,))))
        self.same(program, ("layout", layout))
        self.other(program, ("layout", (layout[0], ((0, (1,)), (1, ())))), ([load(0), ask(0, "a")], None))

    def test_packed(self):
        program = program_of([hand("a", 1, "b"), show((0, "a"))], [give("b")])
        shortened = program_of([hand("a", 1, "b"), show((1, "b"))], [give("b")])
        self.same(program, ("program", shortened, ()))
        self.same(program, ("packed", shortened, ((((1, 0), (0, 1)),), ((0, (0,)),))),
                  [(START, START), (after((1, 0), (0, 0), (0, 1)), after((1, 0), (0, 1)))])
        self.other(program, ("packed", program, ((((1, 0), (0, 1)),), ((0, (0,)),))), ([load(0)], None))


class RiskTest(AnswerCase):
    def test_a_risky_row_of_the_lot(self):
        program = program_of([give("a", risky=True)])
        self.other(program, ("lot", ((0, 0),)), ([load(0)], (0, 0)))
        self.same(program_of([give("a")]), ("lot", ((0, 0),)))

    def test_a_risky_row_in_no_pack(self):
        program = program_of([give("a", risky=True), show()])
        self.other(program, ("layout", ((((0, 1),),), ((0, (0,)),))), ([load(0)], (0, 0)))
        self.same(program, ("layout", ((((0, 0), (0, 1)),), ((0, (0,)),))))

    def test_a_risky_row_whose_turn_never_comes(self):
        program = program_of([show()], [give("a", risky=True)])
        self.same(program, ("lot", ((1, 0),)), [(START, START), (after((0, 0)), after((0, 0)))])

    def test_a_row_that_is_not_risky_in_what_was_made(self):
        program, plain = program_of([give("a", risky=True)]), program_of([give("a")])
        self.other(program, ("program", plain, ()), ([load(0)], (0, 0)))
        self.other(program, ("packed", plain, ((((0, 0),),), ((0, (0,)),))), ([load(0)], (0, 0)))

    def test_a_row_that_is_risky_in_what_was_made_alone(self):
        # No run of the program lets it fail.
        program, risky = program_of([give("a")]), program_of([give("a", risky=True)])
        self.same(program, ("program", risky, ()), [(START, START), (after((0, 0)), after((0, 0)))])
        self.same(program, ("packed", risky, ((((0, 0),),), ((0, (0,)),))))

    def test_a_row_of_another_kind_that_is_risky_in_both(self):
        self.same(program_of([give("a", risky=True), give("b")]),
                  ("program", program_of([give("c", risky=True), give("b", risky=True)]), ()))

    def test_the_order_of_two_risky_rows(self):
        program = program_of([give("a", risky=True), give("b", risky=True), show()])
        self.same(program, ("layout", ((((0, 1), (0, 0), (0, 2)),), ((0, (0,)),))))
        # Something is seen between them, or ahead of one of them.
        self.other(program, ("layout", ((((0, 0), (0, 2), (0, 1)),), ((0, (0,)),))), ([load(0)], (0, 1)))
        self.other(program, ("layout", ((((0, 2), (0, 1), (0, 0)),), ((0, (0,)),))),
                   ([load(0)], (0, 0)), ([load(0)], (0, 1)))

    def test_a_risk_in_another_step(self):
        program = program_of([OUT, give("a", risky=True)], [give("b", risky=True), load(0)], entries=(0, 1))
        self.same(program, ITSELF)
        moved = ((((0, 1), (0, 0)), ((1, 0), (1, 1))), ((0, (0,)), (1, (1, 0))))
        self.other(program, ("layout", moved), ([load(0)], (0, 1)), ([load(1)], (0, 1)))

    def test_a_risk_ahead_of_a_failure(self):
        program = program_of([give("a", risky=True), show((0, "b"))])
        self.same(program, ITSELF, [(START, START)])
        self.other(program, ("lot", ((0, 0),)), ([load(0)], (0, 0)))
        behind = ((((0, 1), (0, 0)),), ((0, (0,)),))
        self.other(program, ("layout", behind), ([load(0)], (0, 0)))

    def test_a_row_whose_need_lacks_comes_to_no_risk(self):
        program = program_of([give("a", (0, "b"), risky=True)])
        self.same(program, ("program", program_of([give("a", (0, "b"))]), ()), [(START, START)])
        found = program_of([give("a", risky=True)])
        self.other(program, ("program", found, ()), ([load(0)], None))

    def test_a_late_row_in_the_place_of_a_risky_one(self):
        program = program_of([show((0, "a"), risky=True)], opens=[(0, "a")])
        made = ("program", program_of([late("a", -1, (0, "b"))], opens=[(0, "a")]), ())
        self.other(program, made, ([load(0)], None))


class ShortestTest(AnswerCase):
    def test_several_steps(self):
        program = program_of([late("a", 1)], [late("b", 2)], [give("c")], entries=(0,),
                             opens=[(0, "a"), (1, "b"), (2, "c")])
        self.other(program, ("lot", ((2, 0),)), ([load(0), ask(0, "a"), ask(1, "b"), ask(2, "c")], None))
        self.other(program, ("lot", ((1, 0),)), ([load(0), ask(0, "a"), ask(1, "b")], None))

    def test_a_failing_row_in_a_later_step(self):
        program = program_of([OUT, give("a", risky=True)], [OUT, load(0)], entries=(1,))
        self.other(program, ("lot", ((0, 1),)), ([load(1), BACK, BACK], (0, 1)))

    def test_it_is_as_short_as_any(self):
        # Both a long way and a short way lead to something unlike.
        program = program_of([OUT, OUT, show()], [give("a")], entries=(0, 1), opens=[(1, "a")])
        self.other(program, ("lot", ((0, 2), (1, 0))), ([load(1), ask(1, "a")], None))
        self.other(program, ("lot", ((0, 2),)), ([load(0), BACK, BACK], None))


class ResultsTest(unittest.TestCase):
    def test_arguments_by_name(self):
        made = ("lot", FULL_LOT)
        self.assertEqual(answer_to(made=made, program=FULL), answer_to(FULL, made))
        self.assertTrue(answer_holds(answer=answer_to(FULL, made), made=made, program=FULL))
        self.assertTrue(paper_holds(pairs=answer_to(FULL, ITSELF)[1], made=ITSELF, program=FULL))

    def test_lists_are_new_and_arguments_stay(self):
        made = ("layout", FULL_LAYOUT)
        for thing in (ITSELF, made):
            first = answer_to(FULL, thing)
            kept = copy.deepcopy(first)
            (first[1] if first[0] == "same" else first[1][0]).clear()
            self.assertEqual(answer_to(FULL, thing), kept)
        answer = answer_to(FULL, ITSELF)
        kept = copy.deepcopy(answer)
        answer_holds(FULL, ITSELF, answer)
        paper_holds(FULL, ITSELF, answer[1])
        self.assertEqual(answer, kept)

    def test_equal_calls_have_equal_results(self):
        for made in (ITSELF, ("lot", FULL_LOT), ("packed", FULL, FULL_LAYOUT)):
            self.assertEqual(answer_to(copy.deepcopy(FULL), copy.deepcopy(made)), answer_to(FULL, made))

    def test_the_kinds_within_pairs(self):
        program = program_of([late("a", 1)], [OUT, give("b")], opens=[(0, "a")])
        for pair in answer_to(program, ITSELF)[1]:
            self.assertEqual([part.__class__ for part in pair + pair[0] + pair[1]], [tuple] * 6)
        self.assertEqual(events_of(program, ([load(0), ask(0, "a")], None)), [("out", (1, 0))])


if __name__ == "__main__":
    unittest.main()
