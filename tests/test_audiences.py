"""Promise 23: which audiences can tell."""

import copy
import unittest

from leanbundle.answers import answer_to
from leanbundle.audiences import blind_audiences, least_audiences
from leanbundle.errors import BadMade, BadProgram
from leanbundle.runs import events_of
from tests import second, trial
from tests.chance import drawn_made, drawn_small_program, draws
from tests.samples import (EXAMPLE, FULL, ITSELF, OUT, STRANGE, ask, give, hand, late, load, program_of, show, spoilt,
                           with_odd_objects)


class AudienceCase(unittest.TestCase):
    def check(self, program, made, least, blind):
        self.assertEqual(least_audiences(program, made), least)
        self.assertEqual(blind_audiences(program, made), blind)


class AudiencesTest(AudienceCase):
    def test_the_example(self):
        self.check(EXAMPLE, ("lot", ((0, 1),)), [(load(0),)], [(load(1),)])
        self.check(EXAMPLE, ("lot", ((1, 0),)), [(load(0),), (load(1),)], [()])
        self.check(EXAMPLE, ITSELF, [], [(load(0), load(1))])

    def test_asks_stand_ahead_of_loads(self):
        program = program_of([give("a")], [give("b")], entries=(0, 1), opens=[(0, "a"), (1, "b")])
        self.check(program, ("lot", ((0, 0),)), [(ask(0, "a"), load(0))],
                   [(ask(0, "a"), ask(1, "b"), load(1)), (ask(1, "b"), load(0), load(1))])

    def test_several_audiences(self):
        program = program_of([give("a")], [load(0)], entries=(0, 1), opens=[(0, "a")])
        self.check(program, ("lot", ((0, 0),)), [(ask(0, "a"), load(0)), (ask(0, "a"), load(1))],
                   [(ask(0, "a"),), (load(0), load(1))])

    def test_least_ones_of_unlike_lengths(self):
        # Part 1 shows what part 0 gives; alone it fails either way.
        program = program_of([give("a")], [show((0, "a"))], [show()], entries=(0, 1, 2))
        self.check(program, ("lot", ((0, 0), (2, 0))), [(load(0), load(1)), (load(2),)], [(load(0),), (load(1),)])

    def test_a_step_back_tells(self):
        program = program_of([OUT, show()])
        self.check(program, ("lot", ((0, 1),)), [(load(0),)], [()])
        self.assertEqual(answer_to(program, ("lot", ((0, 1),)))[1][0], [load(0), ("back",)])

    def test_a_failing_row_tells(self):
        program = program_of([give("a", risky=True)], [give("b")], entries=(0, 1))
        self.check(program, ("lot", ((0, 0),)), [(load(0),)], [(load(1),)])
        self.check(program, ("program", program_of([give("a")], [give("b")], entries=(0, 1)), ()),
                   [(load(0),)], [(load(1),)])

    def test_amid_a_call_out(self):
        # Only amid the call out the name is not yet given again.
        program = program_of([give("a"), OUT, give("a")], [give("b")], entries=(0, 1), opens=[(0, "a")])
        self.check(program, ("lot", ((0, 0),)), [(ask(0, "a"), load(0))], [(ask(0, "a"), load(1)), (load(0), load(1))])

    def test_users_that_never_ask_cannot_tell(self):
        program = program_of([give("a"), OUT], [give("b")], entries=(0, 1), opens=[(0, "a"), (1, "b")])
        self.check(program, ("lot", ((0, 0), (1, 0))), [(ask(0, "a"), load(0)), (ask(1, "b"), load(1))],
                   [(ask(0, "a"), ask(1, "b")), (ask(0, "a"), load(1)), (ask(1, "b"), load(0)), (load(0), load(1))])

    def test_each_of_the_four_forms(self):
        swapped = ((((1, 0),), ((0, 0), (0, 1))), ((0, (0, 1)), (1, (0,))))
        self.check(EXAMPLE, ("layout", swapped), [(load(0),)], [(load(1),)])
        self.check(EXAMPLE, ("packed", EXAMPLE, swapped), [(load(0),)], [(load(1),)])
        other = program_of([give("b"), load(1)], [show((0, "b"))], entries=(0, 1))
        self.check(EXAMPLE, ("program", other, ((1, 0),)), [(load(0),), (load(1),)], [()])
        self.check(EXAMPLE, ("program", other, ()), [], [(load(0), load(1))])
        good = ((((0, 0), (0, 1)), ((1, 0),)), ((0, (0, 1)), (1, (1,))))
        self.check(EXAMPLE, ("layout", good), [], [(load(0), load(1))])
        self.check(EXAMPLE, ("packed", other, good), [], [(load(0), load(1))])

    def test_no_step_but_back(self):
        self.check(program_of([], [show()]), ITSELF, [], [(load(0),)])


class TrialTest(AudienceCase):
    def test_all_audiences_by_trial(self):
        found = {True: 0, False: 0}
        long = 0
        for draw in draws(400):
            program = drawn_small_program(draw)
            made = drawn_made(draw, program, trial.natural_layout)
            tellers = [audience for audience in second.audiences_of(program)
                       if second.can_tell(program, made, audience)]
            blind = [audience for audience in second.audiences_of(program) if audience not in tellers]
            least = [one for one in tellers if not any(set(other) < set(one) for other in tellers)]
            greatest = [one for one in blind if not any(set(one) < set(other) for other in blind)]
            self.check(program, made, sorted(least), sorted(greatest))
            self.relations(program, made)
            found[bool(tellers)] += 1
            long += any(len(one) > 1 for one in least)
        self.assertGreater(min(found.values()), 30)
        self.assertGreater(long, 10)

    def relations(self, program, made):
        least, blind = least_audiences(program, made), blind_audiences(program, made)
        self.assertEqual(least == [], answer_to(program, made)[0] == "same")
        self.assertNotEqual(blind, [])
        for audience in second.audiences_of(program):
            tells = any(set(one) <= set(audience) for one in least)
            self.assertEqual(tells, all(set(audience) - set(one) for one in blind), (program, made, audience))

    def test_seven_steps(self):
        program = program_of([OUT, give("a"), give("b")], [late("c", 3), load(0)], [hand("d", 1, "c"), OUT],
                             [show((0, "a"))], entries=(0, 1, 2), opens=[(0, "a"), (0, "b"), (1, "c"), (2, "d")])
        self.relations(program, ("lot", ((0, 1),)))
        self.assertEqual(least_audiences(program, ("lot", ((3, 0),))),
                         [(ask(1, "c"), load(1)), (ask(1, "c"), load(2)), (ask(2, "d"), load(2))])


class ErrorsTest(unittest.TestCase):
    def test_bad_program_goes_ahead_of_bad_made(self):
        for function in (least_audiences, blind_audiences):
            for thing in STRANGE + [list(EXAMPLE), EXAMPLE[:3]]:
                self.assertRaises(BadProgram, function, thing, ITSELF)
                self.assertRaises(BadProgram, function, thing, None)
            for _, thing in spoilt(EXAMPLE) + with_odd_objects(EXAMPLE):
                self.assertRaises(BadProgram, function, thing, ITSELF)

    def test_bad_made(self):
        for function in (least_audiences, blind_audiences):
            for thing in STRANGE + [["lot", ()], ("lot",), ("lot", [(0, 0)]), ("lot", ((9, 0),)), ("program", FULL, ())]:
                self.assertRaises(BadMade, function, EXAMPLE, thing)
            for _, thing in spoilt(("lot", ((0, 1),))):
                self.assertRaises(BadMade, function, EXAMPLE, thing)


class ResultsTest(unittest.TestCase):
    MADE = ("lot", ((1, 0),))

    def test_lists_are_new_and_arguments_stay(self):
        program, made = copy.deepcopy((EXAMPLE, self.MADE))
        for function in (least_audiences, blind_audiences):
            first = function(program, made)
            self.assertIs(first.__class__, list)
            self.assertEqual({one.__class__ for one in first}, {tuple})
            kept = list(first)
            first.clear()
            self.assertEqual(function(program, made), kept)
            self.assertEqual(function(made=made, program=program), kept)
        self.assertEqual((program, made), (EXAMPLE, self.MADE))

    def test_the_steps_are_steps_of_the_program(self):
        for one in least_audiences(FULL, ("lot", ((0, 0), (1, 0), (1, 1)))):
            events_of(FULL, (list(one), None))


if __name__ == "__main__":
    unittest.main()
