"""Promise 18: user tables."""

import copy
import unittest

from leanbundle.answers import answer_to
from leanbundle.tables import user_table
from tests import trial
from tests.chance import drawn_made, drawn_program, drawn_small_program, draws, with_given_needs
from tests.samples import (EXAMPLE, FULL, FULL_LAYOUT, FULL_LOT, ITSELF, LACK, OUT, ask, give, late, load, program_of,
                           show, shown, told, value)


def outcome(*events, risks=(), then=0):
    return (events, risks, then)


class TableTest(unittest.TestCase):
    def table(self, program, *classes, made=ITSELF):
        self.assertEqual(user_table(program, made), classes)

    def test_a_program_of_which_nothing_is_ever_seen(self):
        quiet = outcome()
        self.table(program_of([]), (quiet, quiet))
        self.table(program_of([give("a"), load(1)], [give("b"), late("a", 0)], entries=(0, 1)), (quiet, quiet, quiet))

    def test_a_program_with_two_classes(self):
        self.table(program_of([show()]),
                   (outcome(shown((0, 0)), then=1), outcome(then=0)), (outcome(then=1), outcome(then=1)))

    def test_the_order_of_the_outcomes(self):
        # Loads, asks, the step back.
        program = program_of([give("a")], [], [late("b", -1)], entries=(0, 2), opens=[(0, "a"), (2, "a"), (2, "b")])
        value_a, late_b = told((0, 0)), shown((2, 0))
        self.table(program,
                   (outcome(then=1), outcome(then=2), outcome(LACK), outcome(LACK), outcome(LACK), outcome()),
                   (outcome(then=1), outcome(then=3), outcome(value_a, then=1), outcome(LACK, then=1),
                    outcome(LACK, then=1), outcome(then=1)),
                   (outcome(then=3), outcome(then=2), outcome(LACK, then=2), outcome(LACK, then=2),
                    outcome(late_b, then=2), outcome(then=2)),
                   (outcome(then=3), outcome(then=3), outcome(value_a, then=3), outcome(LACK, then=3),
                    outcome(late_b, then=3), outcome(then=3)))

    def test_the_example(self):
        self.table(EXAMPLE,
                   (outcome(shown((1, 0), value((0, 0))), then=1), outcome(("fail", (1, 0)), then=-1), outcome()),
                   (outcome(then=1), outcome(then=1), outcome(then=1)))
        # A user of part 0 alone sees nothing, but the loads tell two states apart.
        self.table(EXAMPLE,
                   (outcome(then=1), outcome(("fail", (1, 0)), then=-1), outcome()),
                   (outcome(then=1), outcome(shown((1, 0), value((0, 0))), then=2), outcome(then=1)),
                   (outcome(then=2), outcome(then=2), outcome(then=2)), made=("lot", ((0, 1),)))

    def test_a_failure_has_no_class_behind_it(self):
        self.table(program_of([show(), show((0, "a"))]),
                   (outcome(shown((0, 0)), ("fail", (0, 1)), then=-1), outcome()))

    def test_calls_out(self):
        self.table(program_of([OUT, show()]),
                   (outcome(("out", (0, 0)), then=1), outcome()),
                   (outcome(then=1), outcome(shown((0, 1)), then=2)), (outcome(then=2), outcome(then=2)))

    def test_states_that_are_told_apart_behind_two_steps(self):
        # Two calls out, the one amid the other: which of them the step back ends is only seen by asking then.
        program = program_of([OUT, give("a")], [OUT], entries=(0, 1), opens=[(0, "a")])
        table = user_table(program, ITSELF)
        one = table[table[table[0][0][2]][1][2]]
        other = table[table[table[0][1][2]][0][2]]
        self.assertNotEqual(one, other)
        self.assertEqual([seen[:2] for seen in one], [seen[:2] for seen in other])
        self.assertEqual([seen[0] for seen in table[one[3][2]]], [(), (), (LACK,), ()])
        self.assertEqual([seen[0] for seen in table[other[3][2]]], [(), (), (told((0, 1)),), ()])

    def test_states_that_are_told_apart_behind_several_steps(self):
        program = program_of([OUT, OUT, give("a")], [give("b")], entries=(0,), opens=[(0, "a")])
        table = user_table(program, ITSELF)
        self.assertEqual(len(table), 4)
        self.assertEqual([seen[2] for seen in table[0]], [1, 0, 0])
        self.assertEqual([seen[2] for seen in table[1]], [1, 1, 2])
        self.assertEqual([seen[2] for seen in table[2]], [2, 2, 3])
        self.assertEqual([seen[2] for seen in table[3]], [3, 3, 3])

    def test_equal_states_to_come_are_one_class(self):
        # Whichever part is loaded first, the same can be seen later.
        program = program_of([give("a")], [give("b")], entries=(0, 1), opens=[(0, "a")])
        self.assertEqual(len(answer_to(program, ITSELF)[1]), 5)
        self.table(program, (outcome(then=1), outcome(then=0), outcome(LACK), outcome()),
                   (outcome(then=1), outcome(then=1), outcome(told((0, 0)), then=1), outcome(then=1)))

    def test_classes_are_numbered_as_they_are_met(self):
        # The steps of the first state lead to the classes of part 0, then of part 1, then of part 2.
        program = program_of([show()], [show()], [show()], entries=(0, 1, 2))
        table = user_table(program, ITSELF)
        self.assertEqual([[seen[2] for seen in steps] for steps in table],
                         [[1, 2, 3, 0], [1, 4, 5, 1], [4, 2, 6, 2], [5, 6, 3, 3], [4, 4, 7, 4], [5, 7, 5, 5],
                          [7, 6, 6, 6], [7, 7, 7, 7]])

    def test_values_that_are_nested_deeply(self):
        names = "abcd"
        rows = [[give(names[0])] + [give(names[at % 4], (0, names[(at - 1) % 4])) for at in range(1, 5)],
                [give("a", (0, "a"))] + [give(names[at % 4], (1, names[(at - 1) % 4])) for at in range(1, 5)],
                [give("a", (1, "a")), show((2, "a"))]]
        program = program_of(*rows, entries=(0, 1, 2), opens=[(1, "a"), (2, "a")])
        table = user_table(program, ITSELF)
        self.assertEqual(table, trial.table(program, ITSELF))
        deep = table[table[table[0][0][2]][1][2]][3][0][0]
        self.assertGreater(repr(deep).count("(("), 8)


class RiskTest(unittest.TestCase):
    def risks(self, program, made=ITSELF):
        """The risks of the load of part 0 as the first step."""
        return user_table(program, made)[0][0][1]

    def test_numbers_are_those_of_the_events_ahead(self):
        program = program_of([show(risky=True), give("a", risky=True), OUT, give("b", risky=True)])
        table = user_table(program, ITSELF)
        self.assertEqual(table[0][0], ((shown((0, 0)), ("out", (0, 2))), (((0, 0), 0), ((0, 1), 1)), 1))
        # Those of the step, not of the run.
        self.assertEqual(table[1][1], ((), (((0, 3), 0),), 2))

    def test_they_are_ascending(self):
        program = program_of([load(1), give("a", risky=True)], [show(risky=True), give("a", risky=True)])
        self.assertEqual(self.risks(program), (((0, 1), 1), ((1, 0), 0), ((1, 1), 1)))

    def test_a_risky_row_tells_states_apart(self):
        risky = program_of([give("a", risky=True)])
        self.assertEqual(user_table(risky, ITSELF), ((outcome(risks=(((0, 0), 0),), then=1), outcome(then=0)),
                                                     (outcome(then=1), outcome(then=1))))
        self.assertEqual(user_table(program_of([give("a")]), ITSELF), ((outcome(), outcome()),))

    def test_risks_ahead_of_a_failure(self):
        program = program_of([give("a", risky=True), show((0, "b"), risky=True), give("c", risky=True)])
        self.assertEqual(user_table(program, ITSELF),
                         ((outcome(("fail", (0, 1)), risks=(((0, 0), 0),), then=-1), outcome()),))

    def test_a_row_that_is_risky_in_only_one_of_both(self):
        risky, plain = program_of([give("a", risky=True)]), program_of([give("a")])
        self.assertEqual(user_table(risky, ("program", plain, ())), ((outcome(), outcome()),))
        self.assertEqual(user_table(plain, ("program", risky, ())), ((outcome(), outcome()),))
        self.assertEqual(self.risks(risky, ("program", risky, ())), (((0, 0), 0),))

    def test_a_late_row_in_the_place_of_a_risky_one(self):
        program = program_of([show(risky=True)], opens=[(0, "a")])
        other = program_of([late("a", -1)], opens=[(0, "a")])
        self.assertEqual(user_table(program, ("program", other, ())),
                         ((outcome(then=1), outcome(LACK), outcome()),
                          (outcome(then=1), outcome(shown((0, 0)), then=1), outcome(then=1))))

    def test_risks_of_a_layout(self):
        program = program_of([give("a", risky=True), show(), give("b", risky=True)])
        layout = ((((0, 2), (0, 1), (0, 0)),), ((0, (0,)),))
        self.assertEqual(self.risks(program), (((0, 0), 0), ((0, 2), 1)))
        self.assertEqual(self.risks(program, ("layout", layout)), (((0, 0), 1), ((0, 2), 0)))
        self.assertEqual(self.risks(program, ("lot", ((0, 0), (0, 1)))), (((0, 2), 0),))


class DrawnTest(unittest.TestCase):
    def check(self, program, made):
        table = user_table(program, made)
        self.assertEqual(table, trial.table(program, made), (program, made))
        # What was made is harmless exactly if its table is that of the program.
        self.assertEqual(table == user_table(program, ITSELF), answer_to(program, made)[0] == "same", (program, made))
        return len(table)

    def test_small_programs(self):
        many = []
        for draw in draws(400):
            program = drawn_small_program(draw, 8)
            many.append(self.check(program, drawn_made(draw, program, trial.natural_layout)))
        self.assertGreater(len(set(many)), 5)

    def test_greater_programs(self):
        for draw in draws(40):
            program = drawn_program(draw)
            program = (tuple(tuple(rows) for rows in with_given_needs(draw, program[0])),) + program[1:]
            self.check(program, ITSELF)

    def test_equal_tables_tell_what_is_harmless(self):
        found = {True: 0, False: 0}
        for draw in draws(1500):
            program = drawn_small_program(draw, 8)
            made = drawn_made(draw, program, trial.natural_layout)
            harmless = answer_to(program, made)[0] == "same"
            self.assertEqual(user_table(program, made) == user_table(program, ITSELF), harmless, (program, made))
            found[harmless] += 1
        self.assertGreater(min(found.values()), 300)


class ResultsTest(unittest.TestCase):
    MADE = [ITSELF, ("lot", FULL_LOT), ("layout", FULL_LAYOUT), ("program", FULL, FULL_LOT), ("packed", FULL, FULL_LAYOUT)]

    def test_kinds(self):
        for made in self.MADE:
            table = user_table(FULL, made)
            self.assertIs(table.__class__, tuple)
            for steps in table:
                self.assertEqual((steps.__class__, len(steps)), (tuple, 3 + 4 + 1))
                for seen in steps:
                    self.assertEqual((seen.__class__, len(seen)), (tuple, 3))
                    self.assertEqual([part.__class__ for part in seen], [tuple, tuple, int])
                    self.assertTrue(-1 <= seen[2] < len(table))
                    self.assertEqual(seen[2] == -1, any(event[0] == "fail" for event in seen[0]))

    def test_arguments_by_name_and_equal_calls(self):
        for made in self.MADE:
            self.assertEqual(user_table(made=made, program=FULL), user_table(FULL, made))
            self.assertEqual(user_table(copy.deepcopy(FULL), copy.deepcopy(made)), user_table(FULL, made))

    def test_a_step_that_follows_another(self):
        # What is told along a run is what the classes tell one behind the other.
        program = program_of([late("a", 1), OUT], [show()], entries=(0,), opens=[(0, "a")])
        table = user_table(program, ITSELF)
        steps = [load(0), ask(0, "a")]
        seen, number = [], 0
        for step in steps:
            events, _, number = table[number][trial.steps_of(program).index(step)]
            seen.extend(events)
        self.assertEqual(seen, trial.done(program, ITSELF, steps)[0])


if __name__ == "__main__":
    unittest.main()
