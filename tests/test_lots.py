"""Promises 19 to 22: rows that are done, open rows, the greatest lots, and what to take back."""

import copy
import unittest

from leanbundle.answers import answer_to
from leanbundle.errors import BadLot, BadProgram, TooMany
from leanbundle.lots import barred_pairs, done_rows, greatest_lots, held_rows, mends, open_rows
from leanbundle.programs import all_rows
from leanbundle.runs import events_of
from tests import trial
from tests.chance import drawn_program, drawn_small_program, draws
from tests.samples import (EXAMPLE, FULL, OUT, STRANGE, give, hand, late, load, program_of, show, spoilt,
                           with_odd_objects)

# Six give rows that nobody needs, and with one more row a seventh.
SIX = program_of([give("a")] * 3, [give("a")] * 3)
SEVEN = program_of([give("a")] * 3, [give("a")] * 4)

# The give row of a is named twice; either of the two passing rows may go, but not both.
EITHER = program_of([give("a"), hand("b", 0, "a"), hand("b", 0, "a"), show((0, "b"))])

# The name b is given by the row (0, 1), and alike by the rows (0, 0) and (0, 2) together.
DETOUR = program_of([hand("c", 1, "d"), hand("b", 1, "d"), hand("b", 0, "c"), show((0, "b"))], [give("d")])


def is_harmless(program, lot):
    return answer_to(program, ("lot", lot))[0] == "same"


class DoneTest(unittest.TestCase):
    def done(self, program, *places):
        self.assertEqual(done_rows(program), list(places))

    def test_all_rows(self):
        self.done(EXAMPLE, (0, 0), (0, 1), (1, 0))
        self.done(program_of([]))

    def test_a_part_that_is_never_loaded(self):
        self.done(program_of([show()], [show(), load(0)]), (0, 0))

    def test_rows_behind_a_row_that_always_fails(self):
        self.done(program_of([give("a"), show((0, "b")), show()]), (0, 0), (0, 1))
        self.done(program_of([load(1), show()], [give("a", (0, "a")), load(0)]), (0, 0), (1, 0))

    def test_rows_of_several_entries(self):
        # Part 1 alone fails, behind part 0 it does not.
        self.done(program_of([give("a")], [show((0, "a")), show()], entries=(0, 1)), (0, 0), (1, 0), (1, 1))
        self.done(program_of([give("a")], [show((0, "a")), show()], entries=(1,)), (1, 0))

    def test_rows_that_come_only_amid_a_call_out(self):
        # Part 1 needs that b is given and a is not yet given again.
        program = program_of([give("a"), hand("a", 0, "c"), OUT, give("c")], [late("b", 2, (0, "a"))], [show()],
                             entries=(0, 1), opens=[(1, "b")])
        self.done(program, (0, 0), (0, 1), (0, 2), (0, 3), (1, 0), (2, 0))
        program = program_of([late("a", 1), OUT, give("a")], [show()], opens=[(0, "a")])
        self.done(program, (0, 0), (0, 1), (0, 2), (1, 0))
        program = program_of([late("a", 1), give("a")], [show()], opens=[(0, "a")])
        self.done(program, (0, 0), (0, 1))

    def test_rows_behind_a_call_out(self):
        self.done(program_of([OUT, OUT, give("a")]), (0, 0), (0, 1), (0, 2))

    def test_rows_that_come_only_by_something_late(self):
        program = program_of([late("a", 1)], [show(), load(2)], [show()], opens=[(0, "a")])
        self.done(program, (0, 0), (1, 0), (1, 1), (2, 0))
        self.done(program[:3] + ((),), (0, 0))

    def test_rows_that_come_only_behind_a_risky_row_that_does_not_fail(self):
        self.done(program_of([give("a", risky=True), show(risky=True), give("b")]), (0, 0), (0, 1), (0, 2))

    def test_a_pass_row_that_never_gives(self):
        # Its turn comes, but the part that it loads always fails.
        program = program_of([hand("a", 1, "b"), show()], [show((1, "b"))])
        self.done(program, (0, 0), (1, 0))

    def test_drawn(self):
        for draw in draws(300):
            program = drawn_small_program(draw, 9)
            self.assertEqual(done_rows(program), trial.done_rows(program), program)
        for draw in draws(40):
            program = drawn_program(draw)
            self.assertEqual(done_rows(program), trial.done_rows(program), program)


class OpenTest(unittest.TestCase):
    def open_ones(self, program, *places):
        self.assertEqual(open_rows(program), list(places))

    def test_each_kind_of_row(self):
        self.open_ones(program_of([load(0), give("a"), hand("b", 0, "a"), show(), OUT]), (0, 0), (0, 1), (0, 2))
        self.open_ones(program_of([late("a", -1), give("a", risky=True), show(risky=True), OUT]), (0, 0))

    def test_rows_whose_turn_never_comes(self):
        self.open_ones(program_of([show((0, "a")), show(), give("b", risky=True), OUT, load(0)]),
                       (0, 1), (0, 2), (0, 3), (0, 4))

    def test_a_lot_with_another_row_is_never_harmless(self):
        for draw in draws(120):
            program = drawn_small_program(draw, 7)
            rows = open_rows(program)
            for lot in trial.all_lots(all_rows(program)):
                if not set(lot) <= set(rows):
                    self.assertFalse(is_harmless(program, lot), (program, lot))


class GreatestTest(unittest.TestCase):
    def check(self, program, greatest, held, barred):
        self.assertEqual(greatest_lots(program), greatest)
        self.assertEqual(held_rows(program), held)
        self.assertEqual(barred_pairs(program), barred)

    def test_nothing_can_go(self):
        self.check(EXAMPLE, [()], [(0, 0), (0, 1), (1, 0)], [])
        self.check(program_of([]), [()], [], [])

    def test_no_open_row(self):
        program = program_of([show(), OUT, give("a", risky=True)])
        self.assertEqual(open_rows(program), [])
        self.check(program, [()], [(0, 0), (0, 1), (0, 2)], [])

    def test_everything_can_go(self):
        self.check(program_of([give("a"), load(1)], [give("a", (0, "a"))]), [((0, 0), (0, 1), (1, 0))], [], [])

    def test_one_of_two(self):
        self.check(EITHER, [((0, 1),), ((0, 2),)], [(0, 0), (0, 3)], [((0, 1), (0, 2))])

    def test_a_row_that_goes_only_with_another_one(self):
        program = program_of([give("a"), give("b", (0, "a")), show()])
        self.assertFalse(is_harmless(program, ((0, 0),)))
        self.check(program, [((0, 0), (0, 1))], [(0, 2)], [])

    def test_the_order_is_that_of_tuples(self):
        self.check(DETOUR, [((0, 0), (0, 2)), ((0, 1),)], [(0, 3), (1, 0)], [((0, 0), (0, 1)), ((0, 1), (0, 2))])

    def test_rows_that_go_with_one_of_several(self):
        # Two ways to load part 1 ahead of the show row; what either of them alone needs may go with it.
        program = program_of([load(1), load(1), show((1, "a")), give("b")], [give("a")])
        self.check(program, [((0, 0), (0, 3)), ((0, 1), (0, 3))], [(0, 2), (1, 0)], [((0, 0), (0, 1))])

    def test_six_open_rows(self):
        self.assertEqual(len(open_rows(SIX)), 6)
        self.check(SIX, [tuple(all_rows(SIX))], [], [])
        with_others = program_of([give("a")] * 3 + [show(), OUT], [give("a")] * 3)
        self.check(with_others, [tuple(place for place in all_rows(with_others) if place not in ((0, 3), (0, 4)))],
                   [(0, 3), (0, 4)], [])

    def test_seven_open_rows(self):
        self.assertEqual(len(open_rows(SEVEN)), 7)
        for function in (greatest_lots, held_rows, barred_pairs):
            self.assertRaises(TooMany, function, SEVEN)
            self.assertRaises(TooMany, function, program_of([load(0)] * 5, [late("a", -1)] * 5))

    def test_rows_that_never_come_are_counted_too(self):
        program = program_of([], [show()] * 5, [OUT])
        self.check(program, [tuple(all_rows(program))], [], [])
        for function in (greatest_lots, held_rows, barred_pairs):
            self.assertRaises(TooMany, function, program_of([], [show()] * 5, [OUT] * 2))

    def test_drawn(self):
        for draw in draws(220):
            self.compare(drawn_small_program(draw, 5))

    def test_drawn_with_several_greatest_lots(self):
        several = 0
        for draw in draws(200):
            rows = [draw.choice([load(1), hand("a", 1, "b"), give("a"), give("a", (0, "a")), late("a", -1)])
                    for _ in range(draw.choice([2, 3]))]
            needs = draw.sample([(0, "a"), (1, "b")], draw.choice([1, 1, 2]))
            last = [give("b"), show()] if draw.random() < 0.3 else [give("b")]
            program = program_of(rows + [show(*needs)], last, entries=draw.choice([(0,), (0, 1)]),
                                 opens=draw.choice([(), ((0, "a"),), ((1, "b"),)]))
            several += len(self.compare(program)) > 1
        self.assertGreater(several, 20)

    def compare(self, program):
        """Of all lots, also of those with rows that are not open, find the harmless ones by trial."""
        rows = trial.places_of(program)
        lots = trial.harmless_lots(program, rows)
        greatest = sorted(lot for lot in lots if not any(set(lot) < set(other) for other in lots))
        loose = [place for place in rows if any(place in lot for lot in lots)]
        barred = [(place, other) for place in loose for other in loose
                  if place < other and not any(place in lot and other in lot for lot in lots)]
        self.check(program, greatest, [place for place in rows if place not in loose], barred)
        return greatest


class TwoGoesTest(unittest.TestCase):
    """Promise 19."""

    def test_a_greater_lot_with_equal_events(self):
        found = 0
        for draw in draws(100):
            program = drawn_small_program(draw, 4)
            lots = trial.all_lots(trial.places_of(program))
            harmless = {lot: is_harmless(program, lot) for lot in lots}
            for lot, greater in [(lot, greater) for lot in lots for greater in lots if set(lot) < set(greater)]:
                if harmless[lot]:
                    equal = trial.walk(program, ("lot", greater), ("lot", lot))[0] is None
                    self.assertEqual(harmless[greater], equal, (program, lot, greater))
                    found += equal
        self.assertGreater(found, 50)

    def test_a_part_of_a_harmless_lot(self):
        program = program_of([give("a"), give("b", (0, "a"))])
        self.assertEqual([is_harmless(program, lot) for lot in (((0, 0), (0, 1)), ((0, 1),), ((0, 0),))],
                         [True, True, False])

    def test_two_harmless_lots_together(self):
        self.assertEqual([is_harmless(EITHER, lot) for lot in (((0, 1),), ((0, 2),), ((0, 1), (0, 2)))],
                         [True, True, False])


class MendsTest(unittest.TestCase):
    def test_a_harmless_lot(self):
        self.assertEqual(mends(EXAMPLE, ()), [()])
        self.assertEqual(mends(EITHER, ((0, 1),)), [()])
        self.assertEqual(mends(SIX, tuple(all_rows(SIX))), [()])

    def test_one_way_back(self):
        self.assertEqual(mends(EXAMPLE, ((0, 1),)), [((0, 1),)])
        self.assertEqual(mends(EXAMPLE, ((0, 0), (0, 1), (1, 0))), [((0, 0), (0, 1), (1, 0))])
        self.assertEqual(mends(EITHER, ((0, 1), (0, 3))), [((0, 3),)])

    def test_several_ways_back(self):
        self.assertEqual(mends(EITHER, ((0, 1), (0, 2))), [((0, 1),), ((0, 2),)])
        self.assertEqual(mends(EITHER, ((0, 1), (0, 2), (0, 3))), [((0, 1), (0, 3)), ((0, 2), (0, 3))])

    def test_the_order_is_that_of_tuples(self):
        self.assertEqual(mends(DETOUR, ((0, 0), (0, 1), (0, 2))), [((0, 0), (0, 2)), ((0, 1),)])

    def test_ways_of_unlike_lengths(self):
        # With the row that needs it, the name may go; else the row that gives it comes back.
        program = program_of([give("a"), give("b", (0, "a")), give("a"), show()])
        self.assertEqual(mends(program, ((0, 0), (0, 1))), [()])
        self.assertEqual(mends(program, ((0, 0), (0, 2))), [((0, 0),)])
        self.assertEqual(mends(program, ((0, 0), (0, 3))), [((0, 0), (0, 3))])

    def test_six_and_seven_rows(self):
        rows = all_rows(SEVEN)
        self.assertEqual(mends(SEVEN, tuple(rows[1:])), [()])
        self.assertRaises(TooMany, mends, SEVEN, tuple(rows))
        program = program_of([show()] * 4, [show()] * 4, [load(0), load(1)], entries=(2,))
        lot = tuple(all_rows(program))
        self.assertEqual(mends(program, lot[:6]), [lot[:6]])
        self.assertEqual(mends(program, lot[4:]), [lot[4:]])
        self.assertRaises(TooMany, mends, program, lot[:7])
        self.assertRaises(TooMany, mends, program, lot)

    def test_more_than_six_open_rows_are_let(self):
        self.assertRaises(TooMany, greatest_lots, SEVEN)
        self.assertEqual(mends(SEVEN, ((0, 0),)), [()])

    def test_drawn(self):
        several = 0
        for draw in draws(80):
            program = drawn_small_program(draw, 6)
            rows = trial.places_of(program)
            lots = trial.harmless_lots(program, rows)
            for _ in range(5):
                lot = tuple(sorted(draw.sample(rows, draw.randrange(len(rows) + 1))))
                ways = [some for some in trial.all_lots(lot)
                        if tuple(place for place in lot if place not in some) in lots]
                least = sorted(some for some in ways if not any(set(other) < set(some) for other in ways))
                self.assertEqual(mends(program, lot), least, (program, lot))
                several += len(least[0]) > 1
        self.assertGreater(several, 50)


class ErrorsTest(unittest.TestCase):
    ONE = [done_rows, open_rows, greatest_lots, held_rows, barred_pairs]
    LONG = tuple(all_rows(SEVEN))

    def test_bad_program(self):
        for thing in STRANGE + [list(SEVEN), SEVEN[:3], program_of([load(1)])]:
            for function in self.ONE:
                self.assertRaises(BadProgram, function, thing)
            for lot in ((), None, self.LONG, ((9, 9),)):
                self.assertRaises(BadProgram, mends, thing, lot)
        for _, thing in spoilt(SEVEN) + with_odd_objects(EITHER):
            for function in self.ONE:
                self.assertRaises(BadProgram, function, thing)
            self.assertRaises(BadProgram, mends, thing, None)

    def test_bad_lot(self):
        things = [thing for thing in STRANGE if not (isinstance(thing, tuple) and thing == ())]
        for thing in things + [[], [(0, 0)], ((0, 1), (0, 0)), ((0, 0), (0, 0)), ((0, 5),), ((2, 0),), ((-1, 0),),
                               ((False, 0),), ((0, True),), ([0, 0],), (0, 0), ((0, 0, 0),)]:
            self.assertRaises(BadLot, mends, EITHER, thing)
        for way, thing in spoilt(((0, 1), (0, 2))) + with_odd_objects(((0, 1), (0, 2))):
            self.assertRaises(BadLot, mends, EITHER, thing)

    def test_bad_lot_goes_ahead_of_too_many(self):
        for thing in (self.LONG + ((1, 4),), self.LONG[::-1], list(self.LONG), self.LONG + ((0, 0),), self.LONG + (None,)):
            self.assertRaises(BadLot, mends, SEVEN, thing)

    def test_none_of_them_stops_at_what_another_one_asks_for(self):
        self.assertEqual(len(done_rows(SEVEN)), 3)
        self.assertEqual(len(open_rows(SEVEN)), 7)
        self.assertEqual(open_rows(FULL), [(0, 1), (0, 2), (1, 0), (1, 1), (1, 3)])


class ResultsTest(unittest.TestCase):
    CALLS = [done_rows, open_rows, greatest_lots, held_rows, barred_pairs, lambda program: mends(program, ((0, 1), (0, 2)))]

    def test_kinds(self):
        for function in self.CALLS:
            self.assertIs(function(EITHER).__class__, list)
        self.assertEqual({lot.__class__ for lot in greatest_lots(EITHER) + mends(EITHER, ((0, 1), (0, 2)))}, {tuple})
        places = (done_rows(EITHER) + open_rows(EITHER) + held_rows(EITHER) + barred_pairs(EITHER) +
                  [place for pair in barred_pairs(EITHER) for place in pair])
        self.assertEqual({place.__class__ for place in places}, {tuple})

    def test_lists_are_new_and_equal_calls_have_equal_results(self):
        program = copy.deepcopy(EITHER)
        for function in self.CALLS:
            first = function(program)
            kept = list(first)
            first.append(None)
            first[0] = None
            self.assertEqual(function(program), kept)
            self.assertEqual(function(copy.deepcopy(program)), kept)
        self.assertEqual(program, EITHER)

    def test_arguments_by_name(self):
        for function in self.CALLS[:5]:
            self.assertEqual(function(program=EITHER), function(EITHER))
        self.assertEqual(mends(lot=((0, 1), (0, 2)), program=EITHER), [((0, 1),), ((0, 2),)])

    def test_a_greatest_lot_is_a_lot(self):
        for lot in greatest_lots(EITHER):
            self.assertEqual(events_of(EITHER, ([load(0)], None), lot=lot), events_of(EITHER, ([load(0)], None)))


if __name__ == "__main__":
    unittest.main()
