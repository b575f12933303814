"""Promise 17: whether any object is a list of pairs that shows that what was made is harmless."""

import unittest

from leanbundle.answers import answer_holds, answer_to, paper_holds
from leanbundle.runs import state_after
from tests.samples import (ITSELF, OUT, START, STRANGE, Same, Touchy, after, give, late, load, program_of, show,
                           spoilt, with_odd_objects)


class PaperTest(unittest.TestCase):
    # Nothing is ever seen, so any pairs to which the steps lead from each other will do.
    QUIET = program_of([give("a")], [give("b")], entries=(0, 1))
    STATES = [START, after((0, 0)), after((1, 0)), after((0, 0), (1, 0)), after((1, 0), (0, 0))]

    def paper(self, pairs, made=ITSELF, program=QUIET):
        return paper_holds(program, made, pairs)

    def test_the_pairs_of_the_answer(self):
        self.assertEqual(answer_to(self.QUIET, ITSELF), ("same", sorted((state, state) for state in self.STATES)))
        self.assertIs(self.paper([(state, state) for state in self.STATES]), True)

    def test_a_greater_list(self):
        everything = [(one, other) for one in self.STATES for other in self.STATES]
        self.assertTrue(self.paper(everything))
        self.assertFalse(answer_holds(self.QUIET, ITSELF, ("same", everything)))
        least = [(state, state) for state in self.STATES]
        crossed = [(self.STATES[3], self.STATES[4]), (self.STATES[4], self.STATES[3])]
        self.assertTrue(self.paper(least + crossed))
        self.assertTrue(self.paper(crossed[:1] + least))

    def test_any_order_and_duplicates(self):
        pairs = [(state, state) for state in self.STATES]
        self.assertTrue(self.paper(pairs[::-1] + pairs))
        self.assertTrue(self.paper(pairs[3:] + pairs[:3]))

    def test_without_the_pair_of_the_first_states(self):
        self.assertFalse(self.paper([]))
        self.assertFalse(self.paper([(state, state) for state in self.STATES[1:]]))
        self.assertFalse(self.paper([(self.STATES[3], self.STATES[3])]))

    def test_a_pair_whose_steps_lead_out(self):
        pairs = [(state, state) for state in self.STATES]
        for at in range(1, 5):
            self.assertIs(self.paper(pairs[:at] + pairs[at + 1:]), False)
        # Loading part 1 leads from it to a pair that is not in the list.
        self.assertFalse(self.paper(pairs + [(START, self.STATES[1])]))

    def test_states_that_no_run_has(self):
        pairs = [(state, state) for state in self.STATES]
        for state in (after((0, 0), (0, 0)), after((0, 1)), after((2, 0)), ((), (("part", 0, 1),)), after((-1, 0)),
                      (((0, 0),), (("part", 0, 1),)), (((0, 0),), (("late", (0, 0)),)), ((), (("door", 0, 1),))):
            self.assertFalse(self.paper(pairs + [(state, state)]))
            self.assertFalse(self.paper(pairs + [(START, state)]))
            self.assertFalse(self.paper(pairs + [(state, START)]))

    def test_the_states_of_both_do_not_change_places(self):
        program = program_of([give("a"), show()])
        made = ("lot", ((0, 0),))
        pairs = answer_to(program, made)[1]
        self.assertTrue(self.paper(pairs, made, program))
        self.assertFalse(self.paper([(other, one) for one, other in pairs], made, program))

    def test_states_behind_which_something_differs(self):
        program = program_of([show()], [give("a")], entries=(0, 1))
        pairs = answer_to(program, ITSELF)[1]
        # A user could still load part 0 in one of them only.
        wrong = (after((0, 0)), START)
        self.assertFalse(self.paper(pairs + [wrong], ITSELF, program))
        states = [state for state, _ in pairs]
        everything = [(one, other) for one in states for other in states]
        self.assertFalse(self.paper(everything, ITSELF, program))
        alike = [(one, other) for one, other in everything if ((0, 0) in one[0]) == ((0, 0) in other[0])]
        self.assertTrue(self.paper(alike, ITSELF, program))

    def test_states_from_which_a_risk_differs(self):
        # The events are equal as long as nothing fails.
        program = program_of([give("a", risky=True)], [give("b")], entries=(0, 1))
        states = [state for state, _ in answer_to(program, ITSELF)[1]]
        alike = [(one, other) for one in states for other in states if ((0, 0) in one[0]) == ((0, 0) in other[0])]
        self.assertTrue(self.paper(alike, ITSELF, program))
        unlike = [(one, other) for one in states for other in states]
        self.assertFalse(self.paper(unlike, ITSELF, program))
        self.assertFalse(self.paper([(START, START), (after((0, 0)), START)], ("lot", ((0, 0),)), program_of(
            [give("a", risky=True)])))
        plain = program_of([give("a")], [give("b")], entries=(0, 1))
        self.assertFalse(self.paper(unlike, ("program", plain, ()), program))
        self.assertTrue(self.paper(unlike, ("program", program, ()), plain))

    def test_a_risk_behind_another_number_of_events(self):
        program = program_of([give("a", risky=True), show()])
        made = ("layout", ((((0, 1), (0, 0)),), ((0, (0,)),)))
        pairs = [(START, START), (after((0, 0), (0, 1)), after((0, 1), (0, 0)))]
        self.assertFalse(self.paper(pairs, made, program))
        quiet = program_of([give("a", risky=True), give("b")])
        self.assertTrue(self.paper(pairs, made, quiet))

    def test_steps_that_lead_to_failures(self):
        program = program_of([show((0, "a"))], [give("b"), show((0, "a"))], entries=(0, 1))
        self.assertTrue(self.paper([(START, START)], ("lot", ((1, 0),)), program))
        self.assertFalse(self.paper([(START, START)], ("lot", ((1, 1),)), program))
        self.assertFalse(self.paper([(START, START), (START, after((1, 0)))], ("lot", ((1, 1),)), program))

    def test_what_is_not_harmless(self):
        program = program_of([give("a"), show()])
        for lot in (((0, 1),), ((0, 0), (0, 1))):
            states = [state_after(program, (steps, None), lot=lot) for steps in ([], [load(0)])]
            pairs = [(one, other) for one in (START, after((0, 0), (0, 1))) for other in states]
            for many in range(len(pairs) + 1):
                self.assertFalse(self.paper(pairs[:many], ("lot", lot), program))

    def test_any_object(self):
        pairs = [(state, state) for state in self.STATES]
        strange = [thing for thing in STRANGE if not (isinstance(thing, tuple) and thing == START)]
        for thing in strange + [Same(), Touchy(), tuple(pairs), [pairs], {pair: 1 for pair in pairs}, set(pairs)]:
            self.assertIs(self.paper(thing), False)
            self.assertIs(self.paper(pairs + [thing]), False)
            self.assertIs(self.paper(pairs + [(thing, thing)]), False)
            self.assertIs(self.paper(pairs + [(START, thing)]), False)
            self.assertIs(self.paper(pairs + [(((thing,), ()), START)]), False)
            self.assertIs(self.paper(pairs + [(START, ((), (thing,)))]), False)

    def test_entries_that_are_no_tuples_of_two(self):
        pairs = [(state, state) for state in self.STATES]
        for entry in ((), (START,), (START, START, START), [START, START], [START], START[0]):
            self.assertIs(self.paper(pairs + [entry]), False)

    def test_each_spot(self):
        program = program_of([late("a", 1)], [OUT, give("b")], opens=[(0, "a")])
        pairs = answer_to(program, ITSELF)[1]
        self.assertTrue(self.paper(pairs, ITSELF, program))
        for way, thing in spoilt(pairs) + with_odd_objects(pairs):
            self.assertIs(self.paper(thing, ITSELF, program), False, way)


if __name__ == "__main__":
    unittest.main()
