"""Drawn programs and what is made of them: the package and what tests/trial.py finds by trial agree."""

import unittest

from leanbundle.answers import answer_holds, answer_to, paper_holds
from tests import trial
from tests.chance import drawn_made, drawn_program, drawn_small_program, draws, with_given_needs
from tests.samples import ITSELF


class TrialTest(unittest.TestCase):
    def test_all_runs_up_to_some_length(self):
        found = {"same": 0, "other": 0}
        for draw in draws(250):
            program = drawn_small_program(draw)
            made = drawn_made(draw, program, trial.natural_layout)
            word, what = answer_to(program, made)
            least, pairs, more = trial.all_runs(program, made, 4 if len(trial.steps_of(program)) < 4 else 3)
            if least is not None:
                self.assertEqual((word, len(what[0])), ("other", least), (program, made))
                found["other"] += 1
            elif word == "same":
                self.assertLessEqual(pairs, set(what), (program, made))
                self.assertTrue(more or sorted(pairs) == what, (program, made))
                found["same"] += not more
        self.assertGreater(min(found.values()), 80)

    def test_runs_of_any_length(self):
        for draw in draws(700):
            program = drawn_small_program(draw, 8)
            self.check(program, drawn_made(draw, program, trial.natural_layout))

    def test_greater_programs(self):
        for draw in draws(60):
            program = drawn_program(draw)
            program = (tuple(tuple(rows) for rows in with_given_needs(draw, program[0])),) + program[1:]
            self.check(program, drawn_made(draw, program, trial.natural_layout))

    def check(self, program, made):
        word, what = answer_to(program, made)
        least, pairs = trial.walk(program, made)
        if least is None:
            self.assertEqual((word, what), ("same", sorted(pairs)), (program, made))
        else:
            self.assertEqual((word, len(what[0])), ("other", least), (program, made))
            self.assertNotEqual(trial.done(program, ITSELF, *what)[0], trial.done(program, made, *what)[0])
        self.assertTrue(answer_holds(program, made, (word, what)))

    def test_papers(self):
        found = {True: 0, False: 0}
        for draw in draws(250):
            program = drawn_small_program(draw)
            made = drawn_made(draw, program, trial.natural_layout)
            widest = trial.widest_paper(program, made)
            self.assertEqual(bool(widest), answer_to(program, made)[0] == "same")
            self.assertEqual(paper_holds(program, made, widest), bool(widest))
            for _ in range(4):
                some = [pair for pair in widest if draw.random() < 0.8]
                self.assertEqual(paper_holds(program, made, some), trial.is_paper(program, made, some), (program, made))
            one, other = list(trial.states_of(program, ITSELF)), list(trial.states_of(program, made))
            for _ in range(2):
                more = widest + [(draw.choice(one), draw.choice(other))]
                found[paper_holds(program, made, more)] += 1
                self.assertEqual(paper_holds(program, made, more), trial.is_paper(program, made, more), (program, made))
        self.assertGreater(min(found.values()), 50)


if __name__ == "__main__":
    unittest.main()
