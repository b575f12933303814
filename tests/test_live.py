"""Promises 37 and 38: a live bundle."""

import copy
import unittest

from leanbundle.answers import answer_to
from leanbundle.errors import (BadOptions, BadPart, BadPlace, BadProgram, BadStep, BadValue, BundleError, NothingToUndo)
from leanbundle.live import Bundle
from leanbundle.programs import all_rows
from leanbundle.runs import events_of, state_after
from leanbundle.tool import shaken_lot
from tests import second
from tests.chance import drawn_program, drawn_small_program, draws
from tests.model import modelled
from tests.samples import (BACK, EXAMPLE, FULL, LACK, OUT, START, STRANGE, Same, Touchy, after, ask, give, late, load,
                           program_of, show, shown, spoilt, told, value, with_odd_objects)

# Two rows that call out, open names of each kind, and two risky rows.
PROGRAM = program_of([give("a"), OUT, give("b", (0, "a"), risky=True), show((0, "b"), risky=True)],
                     [late("c", 2, (0, "a")), OUT, give("d")], [show()], entries=(0, 1),
                     opens=[(0, "a"), (0, "b"), (1, "c"), (1, "d")], marks=(False, True, False))

METHODS = ["load", "ask", "back", "leave", "take_back", "fail", "mark", "shake", "undo", "events", "state", "lot",
           "program", "safe", "copy", "__len__", "__contains__", "__eq__"]


class Ledger:
    """A second telling of a bundle: all that it holds is written down anew for each change."""

    def __init__(self, program):
        self.pages = [(program, (), [], None)]

    def now(self):
        return self.pages[-1]

    def write(self, program=None, lot=None, steps=(), failing=0):
        """A new page: what is not told stays, and the run begins anew unless steps are told."""
        page = self.now()
        self.pages.append((program or page[0], page[1] if lot is None else lot, list(steps),
                           page[3] if failing == 0 else failing))

    def do(self, deed, *told):
        program, lot, steps, _ = self.now()
        if deed in ("load", "ask", "back"):
            self.write(steps=steps + [(deed,) + told])
        elif deed == "leave":
            self.write(lot=tuple(sorted(lot + told)))
        elif deed == "take_back":
            self.write(lot=tuple(place for place in lot if place != told[0]))
        elif deed == "fail":
            self.write(failing=told[0])
        elif deed == "shake":
            self.write(lot=shaken_lot(program, *told))
        elif deed == "mark":
            marks = list(program[1])
            marks[told[0]] = told[1]
            self.write(program=(program[0], tuple(marks)) + program[2:], steps=steps)
        else:
            self.pages.pop()


class LiveCase(unittest.TestCase):
    def stands(self, bundle, program, lot=(), steps=(), failing=None):
        """All that the bundle tells of itself."""
        events, state = modelled(program, (list(steps), failing), lot=lot)
        self.assertEqual((bundle.program(), bundle.lot(), bundle.failing), (program, lot, failing))
        self.assertEqual((len(bundle), bundle.events(), bundle.state()), (len(steps), events, state))
        for place in all_rows(program):
            self.assertIs(place in bundle, place not in lot)

    def stands_as(self, bundle, ledger):
        self.stands(bundle, *ledger.now())


class StepsTest(LiveCase):
    def test_at_first(self):
        bundle = Bundle(PROGRAM)
        self.stands(bundle, PROGRAM)
        self.assertEqual((bundle.events(), bundle.state(), len(bundle)), ([], START, 0))
        self.assertIsNone(bundle.failing)

    def test_steps_return_the_events_that_they_add(self):
        bundle = Bundle(PROGRAM)
        self.assertEqual(bundle.ask(0, "a"), [LACK])
        self.assertEqual(bundle.load(0), [("out", (0, 1))])
        self.assertEqual(bundle.ask(0, "a"), [told((0, 0))])
        self.assertEqual(bundle.load(1), [("out", (1, 1))])
        self.assertEqual(bundle.ask(1, "c"), [shown((2, 0)), shown((1, 0), value((0, 0)))])
        self.assertEqual(bundle.back(), [])
        self.assertEqual(bundle.back(), [shown((0, 3), value((0, 2), value((0, 0))))])
        self.assertEqual(bundle.back(), [])
        steps = [ask(0, "a"), load(0), ask(0, "a"), load(1), ask(1, "c"), BACK, BACK, BACK]
        self.stands(bundle, PROGRAM, (), steps)
        self.assertEqual(bundle.events(), events_of(PROGRAM, (steps, None)))
        self.assertEqual(bundle.state(), state_after(PROGRAM, (steps, None)))

    def test_steps_behind_a_failure(self):
        bundle = Bundle(EXAMPLE)
        self.assertEqual(bundle.load(1), [("fail", (1, 0))])
        self.assertEqual((bundle.load(0), bundle.back()), ([], []))
        self.stands(bundle, EXAMPLE, (), [load(1), load(0), BACK])
        self.assertEqual(len(bundle), 3)

    def test_more_than_one_hundred_steps(self):
        bundle = Bundle(PROGRAM)
        bundle.load(0)
        for _ in range(1500):
            self.assertEqual(bundle.ask(0, "a"), [told((0, 0))])
        self.assertEqual(len(bundle), 1501)
        self.assertEqual(bundle.events(), [("out", (0, 1))] + [told((0, 0))] * 1500)
        self.assertEqual(bundle.back(), [shown((0, 3), value((0, 2), value((0, 0))))])
        other = bundle.copy()
        self.assertEqual(len(other), 1502)
        for _ in range(1501):
            bundle.undo()
        self.stands(bundle, PROGRAM, (), [load(0)])
        self.assertEqual(len(other.events()), 1502)

    def test_bad_steps(self):
        bundle = Bundle(PROGRAM)
        bundle.load(0)
        for thing in STRANGE + [2, 3, -1, Same(), Touchy(), (0,), ("load", 0)]:
            if thing.__class__ is int and thing in (0, 1):
                continue
            self.assertRaises(BadStep, bundle.load, thing)
        for part, name in [(0, "c"), (1, "a"), (2, "a"), (False, "a"), (True, "c"), (0, b"a"), (0, None), (None, "a"), ("0", "a"),
                           (0, ("a",)), ((0,), "a"), (Same(), "a"), (0, Same()), (Touchy(), "a"), (0, Touchy()), ([], {})]:
            self.assertRaises(BadStep, bundle.ask, part, name)
        self.stands(bundle, PROGRAM, (), [load(0)])
        bundle.undo()
        self.assertRaises(NothingToUndo, bundle.undo)


class LotTest(LiveCase):
    def test_leave_and_take_back(self):
        bundle = Bundle(PROGRAM)
        bundle.load(0)
        self.assertIsNone(bundle.leave((0, 1)))
        self.stands(bundle, PROGRAM, ((0, 1),))
        self.assertEqual(bundle.load(0), [shown((0, 3), value((0, 2), value((0, 0))))])
        bundle.leave((0, 0))
        self.stands(bundle, PROGRAM, ((0, 0), (0, 1)))
        self.assertEqual(bundle.load(0), [("fail", (0, 2))])
        self.assertIsNone(bundle.take_back((0, 1)))
        self.stands(bundle, PROGRAM, ((0, 0),))
        bundle.take_back((0, 0))
        self.stands(bundle, PROGRAM)

    def test_the_lot_is_ascending(self):
        bundle = Bundle(PROGRAM)
        for place in [(1, 2), (0, 3), (2, 0), (0, 0)]:
            bundle.leave(place)
        self.stands(bundle, PROGRAM, ((0, 0), (0, 3), (1, 2), (2, 0)))

    def test_they_keep_the_failing_row(self):
        bundle = Bundle(PROGRAM)
        bundle.fail((0, 2))
        bundle.leave((0, 2))
        self.stands(bundle, PROGRAM, ((0, 2),), (), (0, 2))
        bundle.take_back((0, 2))
        self.stands(bundle, PROGRAM, (), (), (0, 2))
        bundle.load(0)
        self.assertEqual(bundle.back(), [("fail", (0, 2))])

    def test_bad_places(self):
        bundle = Bundle(PROGRAM)
        bundle.leave((1, 0))
        things = [thing for thing in STRANGE if not (isinstance(thing, tuple) and thing == (0, 0))]
        for thing in things + [(3, 0), (0, 4), (-1, 0), (0, -1), (False, 1), (1, False), (0, 1, 0), (0,), [0, 1], Same(), Touchy(),
                               ((0, 1),), "0:1"] + [odd for _, odd in with_odd_objects((1, 0))]:
            self.assertRaises(BadPlace, bundle.leave, thing)
            self.assertRaises(BadPlace, bundle.take_back, thing)
            self.assertIs(thing in bundle, False)
        self.assertRaises(BadPlace, bundle.leave, (1, 0))
        self.assertRaises(BadPlace, bundle.take_back, (0, 1))
        self.stands(bundle, PROGRAM, ((1, 0),))
        bundle.undo()
        self.assertRaises(NothingToUndo, bundle.undo)

    def test_shake(self):
        bundle = Bundle(PROGRAM)
        bundle.fail((0, 3))
        bundle.leave((0, 0))
        bundle.load(0)
        for options in second.OPTIONS:
            self.assertIsNone(bundle.shake(options))
            self.stands(bundle, PROGRAM, shaken_lot(PROGRAM, options), (), (0, 3))
            bundle.load(1)

    def test_shake_takes_the_marks_as_they_are_now(self):
        program = program_of([show()], marks=(False,))
        bundle = Bundle(program)
        bundle.shake(("marks",))
        self.assertEqual(bundle.lot(), ())
        bundle.mark(0, True)
        bundle.shake(("marks",))
        self.assertEqual(bundle.lot(), ((0, 0),))
        self.assertFalse(bundle.safe())

    def test_bad_options(self):
        bundle = Bundle(PROGRAM)
        bundle.load(0)
        for thing in [None, [], ["loads"], "loads", ("marks", "loads"), ("loads", "loads"), ("load",), 0, Same(), Touchy()]:
            self.assertRaises(BadOptions, bundle.shake, thing)
        self.stands(bundle, PROGRAM, (), [load(0)])

    def test_safe(self):
        bundle = Bundle(EXAMPLE)
        self.assertIs(bundle.safe(), True)
        bundle.leave((0, 1))
        self.assertIs(bundle.safe(), False)
        bundle.undo()
        self.assertIs(bundle.safe(), True)
        bundle = Bundle(PROGRAM)
        bundle.shake(("loads",))
        self.assertIs(bundle.safe(), True)


class FailTest(LiveCase):
    def test_the_failing_row(self):
        bundle = Bundle(PROGRAM)
        bundle.load(0)
        self.assertIsNone(bundle.fail((0, 3)))
        self.stands(bundle, PROGRAM, (), (), (0, 3))
        bundle.load(0)
        self.assertEqual(bundle.back(), [("fail", (0, 3))])
        bundle.fail(None)
        self.stands(bundle, PROGRAM)
        bundle.load(0)
        self.assertEqual(bundle.back(), [shown((0, 3), value((0, 2), value((0, 0))))])

    def test_it_begins_the_run_anew_also_if_it_changes_nothing(self):
        bundle = Bundle(PROGRAM)
        bundle.load(0)
        bundle.fail(None)
        self.stands(bundle, PROGRAM)
        bundle.undo()
        self.stands(bundle, PROGRAM, (), [load(0)])

    def test_bad_places(self):
        bundle = Bundle(PROGRAM)
        bundle.fail((0, 2))
        bundle.load(0)
        things = [thing for thing in STRANGE if thing is not None]
        for thing in things + [(0, 0), (0, 1), (1, 0), (2, 0), (0, 4), (3, 0), (False, 2), [0, 2], (0, 2, 0), Same(), Touchy(),
                               0] + [odd for _, odd in with_odd_objects((0, 2))]:
            self.assertRaises(BadPlace, bundle.fail, thing)
        self.stands(bundle, PROGRAM, (), [load(0)], (0, 2))

    def test_failing_is_a_property_that_is_not_assigned(self):
        bundle = Bundle(PROGRAM)
        with self.assertRaises(AttributeError):
            bundle.failing = (0, 2)
        self.assertIsNone(bundle.failing)


class MarkTest(LiveCase):
    def test_lot_and_run_stay(self):
        bundle = Bundle(PROGRAM)
        bundle.fail((0, 2))
        bundle.leave((2, 0))
        bundle.load(0)
        self.assertIsNone(bundle.mark(2, True))
        marked = (PROGRAM[0], (False, True, True)) + PROGRAM[2:]
        self.stands(bundle, marked, ((2, 0),), [load(0)], (0, 2))
        self.assertEqual(bundle.back(), [("fail", (0, 2))])
        bundle.mark(1, False)
        bundle.mark(1, False)
        marked = (PROGRAM[0], (False, False, True)) + PROGRAM[2:]
        self.stands(bundle, marked, ((2, 0),), [load(0), BACK], (0, 2))

    def test_bad_parts_and_values(self):
        bundle = Bundle(PROGRAM)
        bundle.load(0)
        for thing in STRANGE + [3, -1, "0", (0,), Same(), Touchy()]:
            if thing.__class__ is int and thing in (0, 1, 2):
                continue
            for mark in (True, False, None, 1):
                self.assertRaises(BadPart, bundle.mark, thing, mark)
        for thing in STRANGE + [2, "True", Same(), Touchy()]:
            if thing is not True and thing is not False:
                self.assertRaises(BadValue, bundle.mark, 1, thing)
        self.stands(bundle, PROGRAM, (), [load(0)])


class UndoTest(LiveCase):
    DEEDS = [("load", 0), ("load", 1), ("ask", 0, "a"), ("ask", 1, "c"), ("back",), ("leave", (0, 0)), ("leave", (2, 0)),
             ("fail", (0, 3)), ("fail", None), ("mark", 0, True), ("mark", 1, True), ("shake", ("loads",)), ("shake", ())]

    def test_each_kind_of_change(self):
        for deed in self.DEEDS + [("take_back", (0, 1))]:
            bundle = Bundle(PROGRAM)
            bundle.leave((0, 1))
            bundle.load(0)
            before = bundle.copy()
            getattr(bundle, deed[0])(*deed[1:])
            self.assertIsNone(bundle.undo())
            self.assertEqual(bundle, before)
            self.stands(bundle, PROGRAM, ((0, 1),), [load(0)])
            bundle.undo()
            bundle.undo()
            self.stands(bundle, PROGRAM)
            self.assertRaises(NothingToUndo, bundle.undo)

    def test_changes_that_change_nothing(self):
        bundle = Bundle(PROGRAM)
        for deed in [("back",), ("fail", None), ("mark", 0, False), ("shake", ())]:
            getattr(bundle, deed[0])(*deed[1:])
        self.assertEqual(shaken_lot(PROGRAM, ()), bundle.lot())
        for _ in range(4):
            bundle.undo()
        self.assertRaises(NothingToUndo, bundle.undo)
        self.stands(bundle, PROGRAM)

    def test_nothing_to_undo_is_no_change(self):
        bundle = Bundle(PROGRAM)
        self.assertRaises(NothingToUndo, bundle.undo)
        bundle.load(0)
        bundle.undo()
        self.assertRaises(NothingToUndo, bundle.undo)
        self.stands(bundle, PROGRAM)

    def test_steps_go_on_behind_an_undo(self):
        bundle = Bundle(PROGRAM)
        bundle.load(0)
        bundle.leave((0, 0))
        bundle.load(1)
        bundle.undo()
        bundle.undo()
        self.stands(bundle, PROGRAM, (), [load(0)])
        self.assertEqual(bundle.load(1), [("out", (1, 1))])
        self.stands(bundle, PROGRAM, (), [load(0), load(1)])
        bundle.undo()
        bundle.undo()
        self.stands(bundle, PROGRAM)

    def test_a_mark_amid_steps(self):
        bundle = Bundle(PROGRAM)
        bundle.load(0)
        bundle.mark(0, True)
        bundle.load(1)
        bundle.undo()
        self.stands(bundle, (PROGRAM[0], (True, True, False)) + PROGRAM[2:], (), [load(0)])
        bundle.undo()
        self.stands(bundle, PROGRAM, (), [load(0)])


class CopyTest(LiveCase):
    def test_what_is_done_to_one(self):
        bundle = Bundle(PROGRAM)
        bundle.leave((2, 0))
        bundle.load(0)
        other = bundle.copy()
        self.assertEqual(other, bundle)
        self.assertIsNot(other, bundle)
        self.assertIs(other.__class__, Bundle)
        bundle.load(1)
        bundle.mark(0, True)
        self.stands(other, PROGRAM, ((2, 0),), [load(0)])
        other.back()
        other.fail((0, 2))
        self.stands(bundle, (PROGRAM[0], (True, True, False)) + PROGRAM[2:], ((2, 0),), [load(0), load(1)])

    def test_both_take_back_what_was_done_ahead_of_the_copy(self):
        bundle = Bundle(PROGRAM)
        bundle.load(0)
        bundle.leave((2, 0))
        bundle.load(1)
        other = bundle.copy()
        for one in (other, bundle):
            one.undo()
            one.undo()
            self.stands(one, PROGRAM, (), [load(0)])
            # The run that both went back to is not one list.
            one.ask(0, "a")
            one.undo()
            one.back()
            one.undo()
            self.stands(one, PROGRAM, (), [load(0)])
            one.undo()
            self.assertRaises(NothingToUndo, one.undo)
        self.assertEqual(bundle, other)

    def test_a_copy_of_one_without_changes(self):
        other = Bundle(PROGRAM).copy()
        self.assertRaises(NothingToUndo, other.undo)
        self.stands(other, PROGRAM)


class EqualityTest(LiveCase):
    def test_equal_ones(self):
        one, other = Bundle(PROGRAM), Bundle(copy.deepcopy(PROGRAM))
        self.assertTrue(one == other)
        self.assertFalse(one != other)
        one.load(0)
        self.assertFalse(one == other)
        self.assertTrue(one != other)
        other.load(0)
        self.assertTrue(one == other)

    def test_the_changes_to_take_back_are_no_matter(self):
        one, other = Bundle(PROGRAM), Bundle(PROGRAM)
        one.fail(None)
        one.mark(0, False)
        self.assertEqual(one, other)
        one.leave((0, 0))
        one.take_back((0, 0))
        self.assertEqual(one, other)

    def test_unlike_ones(self):
        for deed in UndoTest.DEEDS:
            one, other = Bundle(PROGRAM), Bundle(PROGRAM)
            getattr(one, deed[0])(*deed[1:])
            same = deed in [("fail", None), ("mark", 1, True)] or (deed[0] == "shake" and one.lot() == ())
            self.assertEqual(one == other, same, deed)

    def test_equal_events_are_not_enough(self):
        one, other = Bundle(PROGRAM), Bundle(PROGRAM)
        one.back()
        self.assertEqual((one.events(), one.state()), (other.events(), other.state()))
        self.assertNotEqual(one, other)
        other.ask(0, "a")
        self.assertNotEqual(one, other)

    def test_nothing_else(self):
        bundle = Bundle(PROGRAM)
        for thing in STRANGE + [PROGRAM, EXAMPLE, Touchy(), Same(), (PROGRAM, (), ([], None)), Bundle]:
            self.assertFalse(bundle == thing)
            self.assertTrue(bundle != thing)


class DrawnTest(LiveCase):
    def test_any_deeds(self):
        deeds = {}
        for draw in draws(250):
            program = drawn_small_program(draw, 9) if draw.random() < 0.7 else drawn_program(draw)
            self.live(draw, [(Bundle(program), Ledger(program))], deeds)
        self.assertGreater(min(deeds.values()), 60)

    def live(self, draw, pairs, deeds):
        for _ in range(draw.randrange(5, 40)):
            bundle, ledger = draw.choice(pairs)
            program, lot, steps, failing = ledger.now()
            deed = self.deed(draw, program, lot, len(ledger.pages) > 1)
            deeds[deed[0]] = deeds.get(deed[0], 0) + 1
            if deed[0] == "copy":
                other = Ledger(program)
                other.pages = list(ledger.pages)
                pairs.append((bundle.copy(), other))
                continue
            before = bundle.events()
            told = getattr(bundle, deed[0])(*deed[1:])
            ledger.do(*deed)
            self.stands_as(bundle, ledger)
            if deed[0] in ("load", "ask", "back"):
                self.assertEqual(before + told, bundle.events())
            else:
                self.assertIsNone(told)
            if draw.random() < 0.1:
                self.assertEqual(bundle.safe(), answer_to(bundle.program(), ("lot", bundle.lot()))[0] == "same")
        for one, ledger in pairs:
            self.stands_as(one, ledger)
            for other, more in pairs:
                self.assertEqual(one == other, ledger.now() == more.now())

    def deed(self, draw, program, lot, undoes):
        risky = [None] + [place for place in all_rows(program)
                          if program[0][place[0]][place[1]][0] in ("give", "show") and program[0][place[0]][place[1]][-1]]
        free = [place for place in all_rows(program) if place not in lot]
        found = [("load", draw.choice(program[2]))] * 5 + [("back",)] * 3 + [("copy",)]
        found += [("ask",) + draw.choice(program[3])] * 4 if program[3] else []
        found += [("undo",)] * 4 if undoes else []
        found += [("leave", draw.choice(free))] if free else []
        found += [("take_back", draw.choice(lot))] if lot else []
        found += [("fail", draw.choice(risky)), ("shake", draw.choice(second.OPTIONS))]
        found += [("mark", draw.randrange(len(program[0])), draw.random() < 0.5)]
        return draw.choice(found)


class ResultsTest(LiveCase):
    def test_lists_stay_as_they_were(self):
        bundle = Bundle(PROGRAM)
        first = bundle.load(0)
        events = bundle.events()
        kept = (list(first), list(events))
        bundle.load(1)
        bundle.back()
        bundle.undo()
        bundle.leave((0, 0))
        self.assertEqual((first, events), kept)

    def test_lists_are_new(self):
        bundle = Bundle(PROGRAM)
        first = bundle.load(0)
        first.append(None)
        bundle.events().clear()
        self.stands(bundle, PROGRAM, (), [load(0)])
        self.assertIs(bundle.events().__class__, list)

    def test_kinds(self):
        bundle = Bundle(PROGRAM)
        bundle.load(0)
        for told in (bundle.state(), bundle.lot(), bundle.program()):
            self.assertIs(told.__class__, tuple)
        self.assertIs(bundle.safe().__class__, bool)
        self.assertIs(bundle.back().__class__, list)
        self.assertEqual(bundle.state()[1], ())
        self.assertEqual(Bundle(EXAMPLE).state(), START)
        bundle = Bundle(EXAMPLE)
        bundle.load(0)
        self.assertEqual(bundle.state(), after((0, 0), (0, 1), (1, 0)))

    def test_arguments_by_name(self):
        bundle = Bundle(program=PROGRAM)
        self.assertEqual(bundle.load(part=0), [("out", (0, 1))])
        self.assertEqual(bundle.ask(name="a", part=0), [told((0, 0))])
        bundle.leave(place=(2, 0))
        bundle.take_back(place=(2, 0))
        bundle.fail(place=(0, 2))
        bundle.mark(value=True, part=0)
        bundle.shake(options=())
        self.assertEqual(bundle.program()[1], (True, True, False))

    def test_methods_are_defined_in_the_class_itself(self):
        for name in METHODS + ["failing"]:
            self.assertIn(name, vars(Bundle), name)
        self.assertIsInstance(vars(Bundle)["failing"], property)
        self.assertEqual(Bundle.__module__, "leanbundle.live")

    def test_bad_program(self):
        for thing in STRANGE + [list(PROGRAM), PROGRAM[:3], Bundle(EXAMPLE)] + [thing for _, thing in spoilt(EXAMPLE)]:
            self.assertRaises(BadProgram, Bundle, thing)
        self.assertTrue(issubclass(BadProgram, BundleError))

    def test_a_program_of_all_kinds_of_rows(self):
        bundle = Bundle(FULL)
        self.assertEqual(bundle.load(0), [shown((1, 2))] + bundle.events()[1:])
        self.stands(bundle, FULL, (), [load(0)])


if __name__ == "__main__":
    unittest.main()
