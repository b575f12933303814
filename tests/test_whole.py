"""Promises 1 to 3, 19 and 43 over the whole program, and how long answers take."""

import ast
import copy
import os
import re
import time
import unittest

from leanbundle.answers import answer_holds, answer_to, paper_holds
from leanbundle.audiences import blind_audiences, least_audiences
from leanbundle.desk import Desk
from leanbundle.errors import BundleError, ManyDoors
from leanbundle.live import Bundle
from leanbundle.lots import barred_pairs, done_rows, greatest_lots, held_rows, mends, open_rows
from leanbundle.packs import built, fewest_packs, flat_layout, good_splits, layout_lot, split_layout
from leanbundle.programs import all_rows, doors_of, is_layout, is_lot, is_program
from leanbundle.runs import events_of, layout_events, layout_state, state_after
from leanbundle.sure import found_names, ready_parts, run_without, shortened, sure_names, sure_way
from leanbundle.tables import user_table
from leanbundle.texts import read_layout, read_lot, read_program, show_layout, show_lot, show_program
from leanbundle.tool import breaking_program, false_marks, lean, reason_for, shaken_lot, sharp_lot
from tests import trial
from tests.chance import drawn_made, drawn_program, drawn_small_program, draws
from tests.samples import EXAMPLE, ITSELF, OUT, give, hand, late, load, program_of, show, value
from tests.test_packs import THIRTY_SIX, with_one_door

HERE = os.path.dirname(os.path.dirname(os.path.abspath(__file__)))

# Programs with as many states as were found: three entries, two call outs, and late rows that load parts amid them.
MANY_STATES = [
    program_of([late("a", 1)], [hand("d", 1, "b"), late("b", 0), OUT, late("d", 0, (0, "d"))],
               [late("a", 3), show((2, "a"), risky=True), late("d", 1, (1, "b"))],
               [give("c"), late("a", 1, (0, "a")), OUT, give("d", risky=True)], entries=(0, 2, 3),
               opens=[(0, "a"), (2, "a"), (2, "d"), (3, "a")], marks=(True, True, True, False)),
    program_of([late("d", 2), late("c", 3, (1, "b")), late("a", -1, (2, "a")), OUT, show(risky=True)],
               [late("c", 3, (0, "c"))], [late("d", -1, (0, "d"), (2, "b"))],
               [late("d", 0, (0, "d"), (3, "b")), late("a", 2), load(3), OUT, give("c")], entries=(0, 1, 3),
               opens=[(0, "d"), (1, "c"), (3, "a"), (3, "d")], marks=(True, False, False, True)),
    program_of([late("b", 0, (0, "a"), (0, "a")), late("c", 2)], [late("a", 2), load(1), OUT, hand("b", 1, "d")], [load(2)],
               [late("b", 1), hand("d", 3, "b"), late("a", 1, (0, "d"), (2, "c")), OUT, hand("c", 3, "a")],
               entries=(0, 1, 3), opens=[(0, "c"), (1, "a"), (3, "a"), (3, "b")], marks=(True, False, False, True)),
]


def all_calls(program, made, lot, layout, run):
    """What all functions of the interface answer, an error in the place of an answer where there is one."""
    place = all_rows(program)[-1]
    text = show_program(program)
    calls = [
        (is_program, program), (is_lot, program, lot), (is_layout, program, layout), (all_rows, program), (doors_of, program),
        (events_of, program, run), (state_after, program, run), (layout_events, program, layout, run),
        (layout_state, program, layout, run), (answer_to, program, made), (user_table, program, made),
        (answer_holds, program, made, answer_to(program, made)), (paper_holds, program, made, [(((), ()), ((), ()))]),
        (done_rows, program), (open_rows, program), (greatest_lots, program), (held_rows, program),
        (barred_pairs, program), (mends, program, lot), (least_audiences, program, made), (blind_audiences, program, made),
        (ready_parts, program, place), (sure_names, program, place), (sure_way, program, place, 0),
        (found_names, program, place), (run_without, program, place, (0, "a")), (shortened, program),
        (shaken_lot, program, ("loads", "risks")), (sharp_lot, program), (breaking_program, ("marks",)),
        (reason_for, program, place, ("loads", "marks")), (false_marks, program), (lean, program),
        (flat_layout, program), (split_layout, program), (layout_lot, program, layout), (good_splits, program),
        (fewest_packs, program), (built, program), (show_program, program), (show_lot, program, lot),
        (show_layout, program, layout), (read_program, text), (read_lot, program, show_lot(program, lot)),
        (read_layout, program, show_layout(program, layout))]
    return [answer(*call) for call in calls]


def answer(function, *told):
    try:
        return function(*told)
    except BundleError as error:
        return error.__class__


class MainPropertyTest(unittest.TestCase):
    """Promise 3."""

    def test_the_answer_shows_what_it_says(self):
        for draw in draws(200):
            program = drawn_small_program(draw, 7)
            made = drawn_made(draw, program, trial.natural_layout)
            told = answer_to(program, made)
            self.assertTrue(answer_holds(program, made, told))
            if told[0] == "same":
                self.assertTrue(paper_holds(program, made, told[1]))
                self.assertIsNone(trial.walk(program, made)[0])
            self.assertEqual(told[0] == "same", user_table(program, made) == user_table(program, ITSELF))
            self.assertEqual(told[0] == "same", least_audiences(program, made) == [])

    def test_nobody_can_tell(self):
        for draw in draws(250):
            program = drawn_small_program(draw, 11) if draw.random() < 0.5 else drawn_program(draw)
            one = with_one_door(program)
            for source, made in [(program, ("program", shortened(program), ())), (program, ("lot", shaken_lot(program, ()))),
                                 (program, ("lot", shaken_lot(program, ("loads",)))), (one, ("layout", flat_layout(one)))]:
                self.assertEqual(answer_to(source, made)[0], "same", (source, made))

    def test_each_other_option_can_be_told(self):
        for option in ("lookups", "marks", "risks"):
            for options in ((option,), tuple(sorted(("loads", option)))):
                program = breaking_program(options)
                word, run = answer_to(program, ("lot", shaken_lot(program, options)))
                self.assertEqual(word, "other")
                self.assertNotEqual(events_of(program, run), events_of(program, run, lot=shaken_lot(program, options)))


class ExampleTest(unittest.TestCase):
    """Promise 43."""

    def test_the_whole_example(self):
        program = (((("give", "a", (), False), ("load", 1)), (("show", ((0, "a"),), False),)), (False, False), (0, 1), ())
        self.assertEqual(program, EXAMPLE)
        self.assertEqual(events_of(program, ([("load", 0)], None)), [("show", (1, 0), (((0, 0), ()),))])
        self.assertEqual(value((0, 0)), ((0, 0), ()))
        self.assertEqual(events_of(program, ([("load", 1)], None)), [("fail", (1, 0))])
        self.assertEqual(answer_to(program, ("lot", ((0, 1),))), ("other", ([("load", 0)], None)))
        layout = ((((0, 0), (0, 1)), ((1, 0),)), ((0, (0, 1)), (1, (1,))))
        self.assertEqual(split_layout(program), layout)
        self.assertEqual(answer_to(program, ("layout", layout))[0], "same")
        self.assertRaises(ManyDoors, flat_layout, program)


class CallsTest(unittest.TestCase):
    """Promise 2."""

    def arguments(self, draw):
        program = drawn_small_program(draw, 8)
        return (program, drawn_made(draw, program, trial.natural_layout), tuple(all_rows(program)[:2]),
                split_layout(program), ([("load", program[2][0])], None))

    def test_equal_calls_return_equal_results_and_arguments_stay(self):
        for draw in draws(60):
            told = self.arguments(draw)
            kept = copy.deepcopy(told)
            first = all_calls(*told)
            self.assertEqual(told, kept)
            for result in first:
                if isinstance(result, list):
                    result.clear()
            again = all_calls(*told)
            self.assertEqual(all_calls(*kept), again)
            self.assertEqual([type(result) for result in first], [type(result) for result in again])

    def test_bundles_and_desks_know_nothing_of_each_other(self):
        for draw in draws(30):
            program = drawn_small_program(draw, 8)
            one, other = Bundle(program), Bundle(program)
            one.load(program[2][0])
            one.leave(all_rows(program)[0])
            self.assertEqual(other, Bundle(program))
            desk = Desk()
            desk.say("program " + show_program(program))
            self.assertEqual(Desk().say("show"), "entries 0 / open - / part")


class TimeTest(unittest.TestCase):
    def quick(self, program):
        lot = tuple(all_rows(program)[:6])
        layout = split_layout(program)
        for made in [("lot", lot), ("lot", shaken_lot(program, ("loads",))), ("layout", layout),
                     ("packed", shortened(program), layout)]:
            begun = time.process_time()
            all_calls(program, made, lot, layout, ([("back",)] * 100, None))
            self.assertLess(time.process_time() - begun, 20)

    def test_programs_with_many_states(self):
        for program in MANY_STATES:
            self.assertGreater(len(answer_to(program, ITSELF)[1]), 300)
            self.quick(program)

    def test_many_layouts_and_lots(self):
        self.quick(THIRTY_SIX)
        self.quick(program_of([give("a")] * 3 + [OUT, show()], [give("a")] * 3 + [OUT, show()], entries=(0, 1),
                              opens=[(0, "a"), (1, "a")]))

    def test_drawn(self):
        for draw in draws(40):
            self.quick(drawn_program(draw))


class ReadmeTest(unittest.TestCase):
    def test_what_it_shows(self):
        """Each line of the README's code answers what its comment says, as far as that begins with a value."""
        with open(os.path.join(HERE, "README.md"), encoding="utf-8") as file:
            code = re.search(r"```python\n(.*?)```", file.read(), re.DOTALL).group(1)
        names, shown = {}, 0
        for node in ast.parse(code).body:
            source = compile(ast.Module([node], []), "README.md", "exec")
            if not isinstance(node, ast.Expr):
                exec(source, names)
                continue
            told = eval(compile(ast.Expression(node.value), "README.md", "eval"), names)
            comment = code.splitlines()[node.end_lineno - 1].partition("  # ")[2]
            found = re.match(r"(True|False|None|0|\[.*\]|\(.*\)|\".*\")(?=$|: )", comment)
            if found:
                self.assertEqual(told, eval(found.group(1), names), comment)
                shown += 1
        self.assertGreater(shown, 45)


if __name__ == "__main__":
    unittest.main()
