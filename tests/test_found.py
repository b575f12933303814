"""Promises 27 and 28: needs that are found, runs in which they are not, and needs that are handed on."""

import copy
import unittest

from leanbundle.answers import answer_to
from leanbundle.errors import BadNeed, BadPlace, BadProgram
from leanbundle.programs import all_rows, is_program
from leanbundle.runs import events_of
from leanbundle.sure import found_names, run_without, shortened, sure_names
from tests import second, trial
from tests.chance import drawn_program, drawn_small_program, draws, with_given_needs
from tests.samples import (BACK, EXAMPLE, FULL, OUT, STRANGE, ask, give, hand, late, load, program_of, show, spoilt,
                           with_odd_objects)


def drawn_with_passes(draw):
    """A program in which pass rows hand on much of what is needed, mostly from ahead."""
    many = draw.choice([2, 2, 3])
    parts = [[] for _ in range(many)]
    for _ in range(draw.randrange(3, 9)):
        part = draw.choice([rows for rows in parts if len(rows) < 4])
        name, other = draw.choice("abcd"), draw.choice("abcd")
        part.append(draw.choice([hand(name, draw.randrange(many), other)] * 3 + [give(name), late(name, -1)]))
    parts = with_given_needs(draw, parts)
    given = [(part, row[1]) for part, rows in enumerate(parts) for row in rows]
    for part in range(many):
        row = draw.choice([show(draw.choice(given), draw.choice(given)), give("d", draw.choice(given), risky=True),
                           late("d", -1, draw.choice(given))])
        parts[part].insert(draw.choice([0, 9]), row)
        if draw.random() < 0.7:
            parts[part].insert(0, load(draw.randrange(many)))
    program = program_of(*[rows[:5] for rows in parts], entries=draw.choice([(0,), (0, 1)]),
                         opens=tuple(sorted(set(draw.sample(given, 1)))))
    return program if is_program(program) else drawn_with_passes(draw)


class FoundTest(unittest.TestCase):
    def found(self, program, place, *needs):
        self.assertEqual(found_names(program, place), list(needs))

    def without(self, program, place, need, *steps):
        told = run_without(program, place, need)
        if steps:
            self.assertEqual(told, (list(steps), None))
        else:
            self.assertIsNone(told)

    def test_a_need_of_its_own_part(self):
        program = program_of([give("a"), show((0, "a")), give("b", (0, "c")), give("c")])
        self.found(program, (0, 0))
        self.found(program, (0, 1), (0, "a"))
        self.found(program, (0, 2))
        self.without(program, (0, 1), (0, "a"))
        self.without(program, (0, 2), (0, "c"), load(0))

    def test_ascending_without_duplicates(self):
        program = program_of([give("b"), give("a"), show((0, "b"), (0, "a")), show((0, "b"), (0, "b"))])
        self.found(program, (0, 2), (0, "a"), (0, "b"))
        self.found(program, (0, 3), (0, "b"))

    def test_one_of_two_needs(self):
        for needs in ([(0, "b"), (0, "a")], [(0, "a"), (0, "b")]):
            program = program_of([give("b"), show(*needs)])
            self.found(program, (0, 1), (0, "b"))
            self.without(program, (0, 1), (0, "a"), load(0))
            self.without(program, (0, 1), (0, "b"))

    def test_a_need_behind_one_that_is_lacking_is_looked_at_too(self):
        program = program_of([show((1, "a"), (1, "b"))], [give("b")], entries=(0, 1))
        self.found(program, (0, 0))
        self.without(program, (0, 0), (1, "a"), load(0))
        self.without(program, (0, 0), (1, "b"), load(0))

    def test_found_needs_that_are_not_sure(self):
        # Part 1 comes only behind part 0, though it is no ready part for it.
        program = program_of([give("a"), load(1)], [show((0, "a"))])
        self.found(program, (1, 0), (0, "a"))
        self.assertEqual(sure_names(program, (1, 0)), [])
        program = program_of([give("a"), hand("b", 0, "a"), show((0, "b"))])
        self.found(program, (0, 2), (0, "b"))
        self.assertNotIn((0, "b"), sure_names(program, (0, 2)))

    def test_another_entry(self):
        program = program_of([give("a"), load(1)], [show((0, "a"))], entries=(0, 1))
        self.found(program, (1, 0))
        self.without(program, (1, 0), (0, "a"), load(1))

    def test_another_name_that_goes_round(self):
        program = program_of([hand("a", 0, "a"), show((0, "a"))])
        self.found(program, (0, 1))
        self.without(program, (0, 1), (0, "a"), load(0))

    def test_rows_whose_turn_never_comes(self):
        program = program_of([], [show((0, "a"), (1, "b")), give("b", (0, "d"))])
        self.found(program, (1, 0), (0, "a"), (1, "b"))
        self.found(program, (1, 1), (0, "d"))
        self.without(program, (1, 0), (0, "a"))
        program = program_of([show((0, "a")), show((0, "b"))])
        self.found(program, (0, 1), (0, "b"))

    def test_a_risky_row(self):
        program = program_of([give("a", (0, "b"), risky=True), show((0, "a"), risky=True)])
        self.found(program, (0, 0))
        self.without(program, (0, 0), (0, "b"), load(0))
        self.found(program, (0, 1), (0, "a"))

    def test_lacking_only_amid_a_call_out(self):
        program = program_of([OUT, give("a"), load(1)], [show((0, "a"))], entries=(0, 1))
        program = (program[0], program[1], (0,), ())
        self.found(program, (1, 0), (0, "a"))
        # Something late lets users come to part 1 amid the call out.
        program = program_of([late("b", 1), OUT, give("a"), load(1)], [show((0, "a"))], opens=[(0, "b")])
        self.found(program, (1, 0))
        self.without(program, (1, 0), (0, "a"), load(0), ask(0, "b"))

    def test_lacking_only_amid_two_call_outs(self):
        # Part 1 needs a name that stands amid the first call out, and is none any more amid the second one.
        program = program_of([give("a"), late("b", 1), OUT, hand("a", 0, "d"), OUT], [give("c"), show((0, "a"))],
                             opens=[(0, "b")])
        self.found(program, (1, 1))
        self.without(program, (1, 1), (0, "a"), load(0), BACK, ask(0, "b"))
        program = program_of([late("b", 2), OUT, load(1)], [OUT, give("a")], [show((1, "a"))], opens=[(0, "b")])
        self.without(program, (2, 0), (1, "a"), load(0), ask(0, "b"))

    def test_lacking_only_behind_something_late(self):
        program = program_of([give("a"), late("b", 1), late("c", 2)], [hand("a", 1, "a"), load(0)], [show((0, "a"))],
                             opens=[(0, "b"), (0, "c")])
        self.found(program, (2, 0), (0, "a"))
        program = program_of([late("b", 1), late("c", 2)], [late("a", -1)], [show((1, "a"))],
                             opens=[(0, "b"), (0, "c")])
        self.without(program, (2, 0), (1, "a"), load(0), ask(0, "c"))

    def test_the_turn_of_a_late_row_is_not_when_it_is_asked_for(self):
        program = program_of([late("a", -1, (0, "b")), give("c")], opens=[(0, "a")])
        self.assertRaises(BadPlace, found_names, program, (0, 0))
        self.assertRaises(BadPlace, run_without, program, (0, 0), (0, "b"))

    def test_drawn(self):
        found = {"found": 0, "lacking": 0, "long": 0}
        programs = [drawn_small_program(draw, 8) for draw in draws(400)] + [drawn_program(draw) for draw in draws(40)]
        for program in programs:
            lacking, came = second.lacking(program)
            for place in all_rows(program):
                row = program[0][place[0]][place[1]]
                if row[0] not in ("give", "show"):
                    continue
                needs = second.needs_in(row)
                told = sorted({need for need in needs if (place, need) not in lacking})
                self.assertEqual(found_names(program, place), told, (program, place))
                self.assertLessEqual(set(needs) & set(sure_names(program, place)), set(told))
                if place not in came:
                    self.assertEqual(told, sorted(set(needs)))
                for need in needs:
                    run = run_without(program, place, need)
                    self.assertEqual(run is None, need in told, (program, place, need))
                    found["found"] += run is None
                    if run is not None:
                        self.assertEqual((len(run[0]), run[1]), (lacking[place, need], None), (program, place, need))
                        self.assertIn(need, second.lacks(program, run[0])[place])
                        events_of(program, run)
                        found["lacking"] += 1
                        found["long"] += len(run[0]) > 1
        self.assertGreater(min(found.values()), 30)


class ShortenedTest(unittest.TestCase):
    def short(self, program, *parts):
        """These are the parts of the shortened program."""
        told = shortened(program)
        self.assertEqual(told, (tuple(tuple(part) for part in parts),) + program[1:])
        self.assertTrue(is_program(told))
        self.assertEqual(answer_to(program, ("program", told, ()))[0], "same")

    def same(self, program):
        self.short(program, *program[0])

    def test_one_need(self):
        self.short(program_of([give("a"), hand("b", 0, "a"), show((0, "b"))]),
                   [give("a"), hand("b", 0, "a"), show((0, "a"))])
        self.short(program_of([give("a"), hand("b", 0, "a"), give("c", (0, "b"), risky=True)], marks=(True,)),
                   [give("a"), hand("b", 0, "a"), give("c", (0, "a"), risky=True)])

    def test_two_needs(self):
        rows = [give("a"), hand("b", 0, "a"), hand("c", 0, "b")]
        self.short(program_of(rows + [show((0, "b"), (0, "c"), risky=True)]),
                   rows + [show((0, "a"), (0, "a"), risky=True)])
        self.short(program_of(rows + [show((0, "a"), (0, "b"))]), rows + [show((0, "a"), (0, "a"))])

    def test_a_chain_across_parts(self):
        parts = [[give("a"), hand("b", 2, "c")], [give("c"), hand("c", 1, "a")]]
        last = [hand("c", 1, "a")]
        self.short(program_of([load(1), show((1, "b"))], parts[0], last), [load(1), show((1, "a"))], parts[0], last)

    def test_a_late_row_keeps_its_needs(self):
        self.same(program_of([give("a"), hand("b", 0, "a"), late("c", -1, (0, "b"))], opens=[(0, "c")]))

    def test_a_pass_row_keeps_what_it_hands_on(self):
        self.short(program_of([give("a"), hand("b", 0, "a"), hand("c", 0, "b"), show((0, "c"))]),
                   [give("a"), hand("b", 0, "a"), hand("c", 0, "b"), show((0, "a"))])

    def test_a_name_that_two_rows_give(self):
        for rows in ([give("b"), hand("b", 0, "a")], [hand("b", 0, "a"), hand("b", 0, "a")],
                     [hand("b", 0, "a"), late("b", -1)]):
            self.same(program_of([give("a")] + rows + [show((0, "b"))]))
        self.same(program_of([give("a"), hand("b", 0, "a"), show((0, "b")), give("b")]))

    def test_a_name_that_something_else_gives(self):
        self.same(program_of([give("b"), show((0, "b"))]))
        self.same(program_of([late("b", -1), show((0, "b"))]))
        self.same(program_of([show((0, "b"))]))

    def test_a_pass_row_behind_the_row(self):
        self.same(program_of([give("a"), show((0, "b")), hand("b", 0, "a")]))
        self.same(program_of([give("a"), OUT, show((0, "b")), hand("b", 0, "a")], entries=(0,)))

    def test_a_part_that_is_not_ready(self):
        self.same(program_of([show((1, "b"))], [give("a"), hand("b", 1, "a")], entries=(0, 1)))
        self.same(program_of([load(1), show((1, "b"))], [give("a"), hand("b", 1, "a"), OUT]))
        self.same(program_of([load(1)], [show((0, "b"))], [give("a"), hand("b", 2, "a")]))

    def test_a_chain_that_comes_to_a_part_that_is_not_ready(self):
        self.short(program_of([give("a"), hand("b", 1, "c"), show((0, "b"))], [hand("c", 0, "a"), load(0)]),
                   [give("a"), hand("b", 1, "c"), show((1, "c"))], [hand("c", 0, "a"), load(0)])

    def test_chains_that_go_round(self):
        rows = [hand("a", 0, "a")]
        self.same(program_of(rows + [show((0, "a"))]))
        rows = [hand("a", 0, "b"), hand("b", 0, "a")]
        self.short(program_of(rows + [show((0, "a"))]), rows + [show((0, "b"))])
        self.short(program_of(rows + [show((0, "b"), (0, "a"))]), rows + [show((0, "a"), (0, "b"))])
        rows = [hand("a", 0, "b"), hand("b", 0, "c"), hand("c", 0, "b")]
        self.short(program_of(rows + [show((0, "a"), (0, "b"))]), rows + [show((0, "c"), (0, "c"))])
        rows = [hand("a", 0, "b"), hand("b", 0, "c"), hand("c", 0, "a")]
        self.short(program_of(rows + [show((0, "b"))]), rows + [show((0, "a"))])

    def test_what_is_handed_on_may_be_lacking(self):
        rows = [hand("a", 0, "d")]
        self.short(program_of(rows + [show((0, "a"))]), rows + [show((0, "d"))])
        rows = [give("d"), hand("a", 0, "d"), OUT, give("d")]
        self.short(program_of(rows + [show((0, "a"))]), rows + [show((0, "d"))])

    def test_all_else_stays(self):
        self.assertEqual(shortened(FULL)[1:], FULL[1:])
        # (0, "c") is not handed on for the row (0, 4), which is no show row, but for (0, 3) it is.
        self.assertEqual(shortened(FULL)[0][0][3], show((1, "a"), (0, "b")))

    def test_drawn(self):
        found = {True: 0, False: 0}
        for draw in draws(900):
            program = drawn_with_passes(draw) if draw.random() < 0.7 else drawn_program(draw)
            other = shortened(program)
            self.assertEqual(other, second.shortened(program), program)
            self.assertEqual(answer_to(program, ("program", other, ()))[0], "same", program)
            found[other == program] += 1
            if other != program:
                self.assertIsNone(trial.walk(program, ("program", other, ()))[0])
        self.assertGreater(min(found.values()), 60)


class ErrorsTest(unittest.TestCase):
    PROGRAM = program_of([give("a"), show((0, "a"), (1, "b")), give("c", (1, "c")), OUT, late("d", -1, (0, "a"))],
                         [hand("b", 0, "a"), load(0)])

    def test_bad_program(self):
        for thing in STRANGE + [list(EXAMPLE), EXAMPLE[:3]] + [thing for _, thing in spoilt(EXAMPLE)]:
            self.assertRaises(BadProgram, shortened, thing)
            for place in ((0, 0), None, (9, 9)):
                self.assertRaises(BadProgram, found_names, thing, place)
                self.assertRaises(BadProgram, run_without, thing, place, (0, "a"))

    def test_bad_place(self):
        for thing in STRANGE + [(0, 3), (0, 4), (1, 0), (1, 1), (0, 5), (2, 0), (-1, 0), (False, 1), (0, True), [0, 1]]:
            if thing in ((0, 0),):
                continue
            self.assertRaises(BadPlace, found_names, self.PROGRAM, thing)
            for need in ((0, "a"), None, (9, "a")):
                self.assertRaises(BadPlace, run_without, self.PROGRAM, thing, need)
        for _, odd in with_odd_objects((0, 1)):
            self.assertRaises(BadPlace, found_names, self.PROGRAM, odd)

    def test_bad_need(self):
        for thing in STRANGE + [(0, "b"), (1, "a"), (1, "c"), (False, "a"), (True, "b"), [0, "a"], (0, "a", 0), (0,),
                                ((0, "a"),), "a", (2, "a"), (0, "e"), (0, b"a"), ((0, "a"), (1, "b"))]:
            self.assertRaises(BadNeed, run_without, self.PROGRAM, (0, 1), thing)
        for _, odd in with_odd_objects((0, "a")):
            self.assertRaises(BadNeed, run_without, self.PROGRAM, (0, 1), odd)
        for need in ((0, "a"), (1, "b")):
            self.assertRaises(BadNeed, run_without, self.PROGRAM, (0, 0), need)
            self.assertRaises(BadNeed, run_without, self.PROGRAM, (0, 2), need)


class ResultsTest(unittest.TestCase):
    PROGRAM = program_of([give("a"), hand("b", 0, "a"), show((0, "b"), (0, "c"))])

    def test_results_are_new_and_arguments_stay(self):
        program = copy.deepcopy(self.PROGRAM)
        first = found_names(program, (0, 2))
        self.assertEqual(first, [(0, "b")])
        first.clear()
        self.assertEqual(found_names(program, (0, 2)), [(0, "b")])
        run = run_without(program, (0, 2), (0, "c"))
        self.assertEqual(run, ([load(0)], None))
        run[0].clear()
        self.assertEqual(run_without(program, (0, 2), (0, "c")), ([load(0)], None))
        self.assertEqual(shortened(program), shortened(program))
        self.assertEqual(program, self.PROGRAM)

    def test_arguments_by_name(self):
        self.assertEqual(found_names(place=(0, 2), program=self.PROGRAM), [(0, "b")])
        self.assertIsNone(run_without(need=(0, "b"), place=(0, 2), program=self.PROGRAM))
        self.assertEqual(shortened(program=self.PROGRAM)[0][0][2], show((0, "a"), (0, "c")))


if __name__ == "__main__":
    unittest.main()
