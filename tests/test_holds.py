"""Promise 16: whether any object is an answer that shows what it says."""

import copy
import unittest

from leanbundle.answers import answer_holds, answer_to, paper_holds
from tests.samples import (BACK, OUT, START, STRANGE, Same, Touchy, ask, give, load, program_of, spoilt,
                           with_odd_objects)


class HoldsTest(unittest.TestCase):
    MADE = ("lot", ((0, 1), (1, 0)))
    PROGRAM = program_of([OUT, give("a")], [give("b"), load(0)], entries=(0, 1))
    HARMFUL = ("lot", ((0, 0),))

    def holds(self, answer, made=MADE):
        return answer_holds(self.PROGRAM, made, answer)

    def setUp(self):
        self.answer = answer_to(self.PROGRAM, self.MADE)
        self.pairs = self.answer[1]

    def test_the_told_one(self):
        self.assertEqual(self.answer[0], "same")
        self.assertGreater(len(self.pairs), 5)
        self.assertIs(self.holds(self.answer), True)
        self.assertIs(self.holds(copy.deepcopy(self.answer)), True)

    def test_another_order_and_duplicates(self):
        self.assertTrue(self.holds(("same", self.pairs[::-1])))
        self.assertTrue(self.holds(("same", self.pairs * 3)))
        self.assertTrue(self.holds(("same", self.pairs[2:] + self.pairs[:4])))

    def test_a_pair_left_out(self):
        for at in range(len(self.pairs)):
            self.assertIs(self.holds(("same", self.pairs[:at] + self.pairs[at + 1:])), False)
        self.assertFalse(self.holds(("same", [])))

    def test_a_pair_too_many(self):
        for pair in [(one[0], other[1]) for one in self.pairs for other in self.pairs]:
            self.assertEqual(self.holds(("same", self.pairs + [pair])), pair in self.pairs)

    def test_a_spoilt_pair(self):
        for way, answer in spoilt(self.answer) + with_odd_objects(self.answer):
            self.assertIs(self.holds(answer), False, way)

    def test_true_and_false_are_no_integers(self):
        pair = ((((0, 0),), (("part", 0, 1),)), (((0, 0),), (("part", 0, 1),)))
        self.assertIn(pair, self.pairs)
        self.assertEqual(pair, ((((False, 0),), (("part", False, True),)), (((0, 0),), (("part", 0, 1),))))
        for odd in (((((False, 0),), (("part", 0, 1),)), pair[1]), (pair[0], (((0, False),), (("part", 0, 1),))),
                    ((((0, 0),), (("part", False, 1),)), pair[1]), (pair[0], (((0, 0),), (("part", 0, True),)))):
            self.assertEqual(odd, pair)
            self.assertFalse(self.holds(("same", [odd if other == pair else other for other in self.pairs])))
            self.assertFalse(self.holds(("same", self.pairs + [odd])))
            self.assertFalse(paper_holds(self.PROGRAM, self.MADE, self.pairs + [odd]))

    def test_any_object(self):
        for thing in STRANGE + [Same(), Touchy()]:
            self.assertIs(self.holds(thing), False)
            for word in ("same", "other"):
                self.assertIs(self.holds((word, thing)), False)
                self.assertIs(self.holds((word, [thing])), False)
                self.assertIs(self.holds((word, [(thing, thing)])), False)
                self.assertIs(self.holds((word, ([thing], None))), False)
                self.assertIs(self.holds((word, ([], thing)), self.HARMFUL), False)
            self.assertIs(self.holds((thing, self.pairs)), False)

    def test_no_tuple_of_two_with_its_word(self):
        for answer in (["same", self.pairs], ("same",), ("same", self.pairs, None), ("Same", self.pairs),
                       ("other", self.pairs), (b"same", self.pairs), ("same", tuple(self.pairs)),
                       ("same", {pair: True for pair in self.pairs}), ("same", set(self.pairs)), (self.pairs, "same"),
                       ("same", [list(pair) for pair in self.pairs]), ("same", [pair * 2 for pair in self.pairs]),
                       ("same", [pair[:1] for pair in self.pairs]), ("same", self.pairs + [()]),
                       ("same", self.pairs + [(START,)]), ("same", self.pairs + [(START, START, START)])):
            self.assertIs(self.holds(answer), False)
        for word in ("same", "Other", "others", "", b"other", None, "lot", 1):
            self.assertIs(self.holds((word, ([load(0)], None)), self.HARMFUL), False)

    def test_states_with_more_entries(self):
        # Some of these cannot be looked for in a set.
        for more in (0, None, (), [], {}):
            for state in (START + (more,), (((0, 0, more),), ()), (((0, 0),), (("part", 0, 1, more),)),
                          (((0, 0),), (("late", (0, 0), more),)), (((0, 0),), (("late", (0, 0, more)),))):
                for pair in ((START, state), (state, START)):
                    self.assertIs(self.holds(("same", self.pairs + [pair])), False)
                    self.assertIs(paper_holds(self.PROGRAM, self.MADE, self.pairs + [pair]), False)

    def test_a_list_that_holds_itself(self):
        pairs = list(self.pairs)
        pairs.append(pairs)
        self.assertFalse(self.holds(("same", pairs)))
        self.assertFalse(paper_holds(self.PROGRAM, self.MADE, pairs))

    def test_the_other_answer(self):
        self.assertIs(self.holds(("other", ([load(0)], None)), self.HARMFUL), True)
        self.assertFalse(self.holds(("other", ([load(0)], None))))
        self.assertFalse(self.holds(("same", self.pairs), self.HARMFUL))
        self.assertFalse(self.holds(("same", [(START, START)]), self.HARMFUL))

    def test_a_run_that_is_longer_than_needed(self):
        for steps in ([BACK, load(0)], [load(0), load(0), BACK], [load(1)], [load(0)] + [BACK] * 99):
            self.assertTrue(self.holds(("other", (steps, None)), self.HARMFUL))

    def test_a_run_with_like_events(self):
        for steps in ([], [BACK], [BACK, BACK]):
            self.assertFalse(self.holds(("other", (steps, None)), self.HARMFUL))

    def test_a_run_that_is_none(self):
        for run in (([load(0)],), [[load(0)], None], ((load(0),), None), ([load(2)], None), ([load(0), None], None),
                    ([load(False)], None), ([["load", 0]], None), ([load(0)], (0, 1)), ([load(0)], None, None),
                    ([load(0)] * 101, None), ([load(0), ask(0, "a")], None), None, []):
            self.assertIs(self.holds(("other", run), self.HARMFUL), False, run)
        self.assertIs(self.holds(["other", ([load(0)], None)], self.HARMFUL), False)
        self.assertIs(self.holds(("other", ([load(0)], None), None), self.HARMFUL), False)

    def test_a_run_with_a_failing_row(self):
        program = program_of([give("a", risky=True), give("b", risky=True)])
        made = ("lot", ((0, 0),))
        self.assertTrue(answer_holds(program, made, ("other", ([load(0)], (0, 0)))))
        self.assertFalse(answer_holds(program, made, ("other", ([load(0)], (0, 1)))))
        self.assertFalse(answer_holds(program, made, ("other", ([load(0)], None))))
        self.assertFalse(answer_holds(program, made, ("other", ([], (0, 0)))))


if __name__ == "__main__":
    unittest.main()
