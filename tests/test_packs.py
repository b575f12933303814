"""Promises 33 to 36: rows laid into packs."""

import copy
import unittest

from leanbundle.answers import answer_to
from leanbundle.errors import BadLayout, BadProgram, ManyDoors, TooMany
from leanbundle.packs import built, fewest_packs, flat_layout, good_splits, layout_lot, split_layout
from leanbundle.programs import all_rows, doors_of, is_layout
from leanbundle.sure import shortened
from leanbundle.tool import shaken_lot
from tests import second, trial
from tests.chance import drawn_layout, drawn_program, drawn_small_program, draws
from tests.samples import (EXAMPLE, FULL, FULL_LAYOUT, OUT, STRANGE, give, hand, late, load, program_of, show, spoilt,
                           with_odd_objects)

# Doors 0 and 1 have a pack of their own each, share one, and share another one with door 2.
THIRTY_SIX = program_of([load(2), load(3), show()], [load(2), load(3), show()], [show()], [show()], entries=(0, 1, 2))
# Four packs of door 0 and two of door 1: forty-eight layouts.
MORE = program_of([load(1), load(3)], [load(2), show()], [late("a", 3)], [show()], entries=(0, 1, 2))


def is_harmless(program, layout):
    return answer_to(program, ("layout", layout))[0] == "same"


def with_one_door(program):
    """The same program with one entry, whose late rows load nothing else."""
    door = program[2][0]
    parts = tuple(tuple(row[:2] + (door if row[2] >= 0 else -1,) + row[3:] if row[0] == "late" else row for row in rows)
                  for rows in program[0])
    return (parts, program[1], (door,), program[3])


class FlatTest(unittest.TestCase):
    def flat(self, program, *places):
        told = flat_layout(program)
        door = doors_of(program)[0]
        self.assertEqual(told, ((places,), ((door, (0,)),)))
        self.assertTrue(is_layout(program, told))
        self.assertTrue(is_harmless(program, told))

    def test_one_part(self):
        self.flat(program_of([give("a"), show((0, "a")), late("b", -1)]), (0, 0), (0, 1), (0, 2))

    def test_load_rows_stand_ahead_of_what_they_load(self):
        self.flat(program_of([give("a"), load(1), show()], [show(), load(2)], [show()]),
                  (0, 0), (0, 1), (1, 0), (1, 1), (2, 0), (0, 2))

    def test_pass_rows_stand_behind_what_they_load(self):
        self.flat(program_of([hand("a", 1, "b"), show()], [give("b"), hand("c", 2, "d"), show()], [give("d")]),
                  (1, 0), (2, 0), (1, 1), (1, 2), (0, 0), (0, 1))

    def test_a_part_is_begun_once(self):
        self.flat(program_of([load(1), load(1), hand("a", 1, "b"), load(0)], [give("b"), load(0)]),
                  (0, 0), (1, 0), (1, 1), (0, 1), (0, 2), (0, 3))
        self.flat(program_of([hand("a", 1, "b"), show()], [hand("b", 0, "c"), load(1)]), (1, 0), (1, 1), (0, 0), (0, 1))

    def test_call_outs_are_ended_at_once(self):
        self.flat(program_of([OUT, load(1), show()], [show(), OUT, show()]),
                  (0, 0), (0, 1), (1, 0), (1, 1), (1, 2), (0, 2))

    def test_lacking_needs_are_passed_over(self):
        self.flat(program_of([show((0, "a")), give("b", (0, "c")), load(1), show()], [show((1, "a"), (1, "b"))]),
                  (0, 0), (0, 1), (0, 2), (1, 0), (0, 3))

    def test_risky_rows(self):
        self.flat(program_of([give("a", risky=True), show(risky=True)]), (0, 0), (0, 1))

    def test_rows_whose_turn_does_not_come(self):
        self.flat(program_of([show()], [show(), give("a")], [load(0)]), (0, 0))
        self.flat(program_of([show()], [load(2)], [show()], entries=(1,)), (1, 0), (2, 0))

    def test_one_door_by_late_rows_that_name_it(self):
        self.flat(program_of([late("a", 0, (0, "b")), late("b", -1), OUT], opens=[(0, "a")]), (0, 0), (0, 1), (0, 2))
        # A part that only a late row would load is another door.
        self.assertRaises(ManyDoors, flat_layout, program_of([late("a", 1)], []))

    def test_no_rows_at_all(self):
        self.assertEqual(flat_layout(program_of([])), ((), ((0, ()),)))
        self.assertEqual(flat_layout(program_of([], [show()], entries=(0,))), ((), ((0, ()),)))
        self.assertEqual(flat_layout(program_of([show()], [], entries=(1,))), ((), ((1, ()),)))
        self.assertTrue(is_harmless(program_of([show()], [], entries=(1,)), ((), ((1, ()),))))

    def test_many_doors(self):
        for program in (EXAMPLE, FULL, THIRTY_SIX, program_of([late("a", 1)], []), program_of([], [late("a", 1)]),
                        program_of([], [], entries=(0, 1))):
            self.assertRaises(ManyDoors, flat_layout, program)

    def test_drawn(self):
        found = 0
        for draw in draws(500):
            program = with_one_door(drawn_small_program(draw, 10) if draw.random() < 0.7 else drawn_program(draw))
            told = flat_layout(program)
            order = tuple(second.order_of(program, program[2][0]))
            self.assertEqual(told[0], (order,) if order else ())
            self.assertEqual(told[1], ((program[2][0], (0,) if order else ()),))
            self.assertTrue(is_harmless(program, told), program)
            self.assertEqual(split_layout(program), told)
            if draw.random() < 0.4:
                # Runs with each failing row are among these.
                self.assertIsNone(trial.walk(program, ("layout", told))[0], program)
            found += len({place[0] for place in order}) > 1
        self.assertGreater(found, 100)


class SplitTest(unittest.TestCase):
    def split(self, program, packs, *doors):
        told = split_layout(program)
        self.assertEqual(told, (tuple(tuple(pack) for pack in packs), doors))
        self.assertTrue(is_layout(program, told))

    def test_the_example(self):
        self.split(EXAMPLE, [[(0, 0), (0, 1)], [(1, 0)]], (0, (0, 1)), (1, (1,)))
        self.assertTrue(is_harmless(EXAMPLE, split_layout(EXAMPLE)))

    def test_doors_that_lead_to_each_other(self):
        self.split(program_of([show(), load(1)], [load(0), show()], entries=(0, 1)),
                   [[(0, 0), (0, 1), (1, 0), (1, 1)]], (0, (0,)), (1, (0,)))
        self.split(program_of([show(), load(1)], [load(2)], [show(), load(0)], entries=(1, 2)),
                   [[(1, 0), (2, 0), (2, 1), (0, 0), (0, 1)]], (1, (0,)), (2, (0,)))

    def test_parts_to_which_no_door_belongs(self):
        self.split(program_of([show()], [show(), load(0)], [load(1)]), [[(0, 0)]], (0, (0,)))

    def test_parts_with_the_same_doors(self):
        self.split(program_of([load(2), show()], [show(), load(2)], [load(3), show()], [show()], entries=(0, 1)),
                   [[(0, 0), (0, 1)], [(2, 0), (3, 0), (2, 1)], [(1, 0), (1, 1)]], (0, (0, 1)), (1, (2, 1)))

    def test_parts_that_late_rows_name(self):
        self.split(program_of([late("a", 1), show()], [show(), load(2)], [give("a")]),
                   [[(0, 0), (0, 1)], [(1, 0), (1, 1), (2, 0)]], (0, (0,)), (1, (1,)))

    def test_parts_without_rows(self):
        self.split(program_of([load(1)], [], [show()], entries=(0, 1, 2)), [[(0, 0)], [(2, 0)]],
                   (0, (0,)), (1, ()), (2, (1,)))
        self.split(program_of([], [load(0)], entries=(0, 1)), [[(1, 0)]], (0, ()), (1, (0,)))
        self.split(program_of([], []), [], (0, ()))

    def test_the_order_of_the_rows_is_that_of_the_least_door(self):
        # Door 0 does part 2 ahead of part 3, door 1 the other way round.
        program = program_of([load(2), load(3)], [load(3), load(2)], [show()], [show()], entries=(0, 1))
        self.split(program, [[(0, 0), (0, 1)], [(2, 0), (3, 0)], [(1, 0), (1, 1)]], (0, (0, 1)), (1, (2, 1)))
        self.assertFalse(is_harmless(program, split_layout(program)))

    def test_rows_of_two_parts_amid_each_other(self):
        self.split(program_of([show(), hand("a", 1, "b"), show()], [give("b"), load(2), show()], [show()]),
                   [[(0, 0), (1, 0), (1, 1), (2, 0), (1, 2), (0, 1), (0, 2)]], (0, (0,)))

    def test_the_packs_are_numbered_by_their_doors(self):
        program = program_of([load(3)], [load(3)], [load(3)], [show()], entries=(0, 1, 2))
        self.split(program, [[(0, 0)], [(3, 0)], [(1, 0)], [(2, 0)]], (0, (0, 1)), (1, (2, 1)), (2, (3, 1)))
        program = program_of([load(1)], [load(2)], [show()], entries=(0, 1, 2))
        self.split(program, [[(0, 0)], [(1, 0)], [(2, 0)]], (0, (0, 1, 2)), (1, (1, 2)), (2, (2,)))

    def test_the_numbers_of_a_door_stand_in_the_order_of_first_rows(self):
        # The pass row of part 0 is done behind part 1, so the pack of part 1 comes first.
        self.split(program_of([hand("a", 1, "a")], [give("a")], entries=(0, 1)), [[(0, 0)], [(1, 0)]],
                   (0, (1, 0)), (1, (1,)))
        self.split(program_of([show(), hand("a", 1, "a")], [give("a")], entries=(0, 1)), [[(0, 0), (0, 1)], [(1, 0)]],
                   (0, (0, 1)), (1, (1,)))

    def test_the_first_row_whichever_it_is(self):
        # In the pack of parts 2 and 3 part 2 comes first, but door 1 comes to part 3 first.
        program = program_of([load(2), load(3)], [load(3), show(), load(2)], [show()], [show()], entries=(0, 1))
        self.split(program, [[(0, 0), (0, 1)], [(2, 0), (3, 0)], [(1, 0), (1, 1), (1, 2)]], (0, (0, 1)), (1, (2, 1)))
        program = program_of([load(2), load(3)], [hand("a", 3, "a"), load(2)], [show()], [show()], entries=(0, 1))
        self.split(program, [[(0, 0), (0, 1)], [(2, 0), (3, 0)], [(1, 0), (1, 1)]], (0, (0, 1)), (1, (1, 2)))

    def test_rows_behind_a_lacking_need_and_call_outs(self):
        self.split(program_of([show((0, "a")), OUT, load(1)], [OUT, show()], entries=(0, 1)),
                   [[(0, 0), (0, 1), (0, 2)], [(1, 0), (1, 1)]], (0, (0, 1)), (1, (1,)))

    def test_a_split_that_is_not_harmless(self):
        # What part 0 does behind part 1 comes ahead of it in the layout.
        program = program_of([load(1), show()], [show()], entries=(0, 1))
        self.split(program, [[(0, 0), (0, 1)], [(1, 0)]], (0, (0, 1)), (1, (1,)))
        self.assertFalse(is_harmless(program, split_layout(program)))

    def test_drawn(self):
        sizes = {}
        for draw in draws(700):
            program = drawn_small_program(draw, 10) if draw.random() < 0.5 else drawn_program(draw)
            told = split_layout(program)
            self.assertEqual(told, second.split_layout(program), program)
            self.assertTrue(is_layout(program, told))
            sizes[len(told[0])] = sizes.get(len(told[0]), 0) + 1
        self.assertEqual(set(sizes), {0, 1, 2, 3, 4})


class LayoutLotTest(unittest.TestCase):
    def test_rows_in_no_pack(self):
        self.assertEqual(layout_lot(EXAMPLE, split_layout(EXAMPLE)), ())
        self.assertEqual(layout_lot(EXAMPLE, ((), ((0, ()), (1, ())))), ((0, 0), (0, 1), (1, 0)))
        self.assertEqual(layout_lot(EXAMPLE, ((((1, 0),), (), ((0, 0),)), ((0, ()), (1, (2,))))), ((0, 1),))
        self.assertEqual(layout_lot(FULL, FULL_LAYOUT), ((0, 2), (0, 3), (0, 4), (1, 0), (1, 2), (1, 3)))

    def test_a_pack_that_no_door_does(self):
        self.assertEqual(layout_lot(EXAMPLE, ((((0, 0), (0, 1), (1, 0)),), ((0, ()), (1, ())))), ())

    def test_drawn(self):
        for draw in draws(150):
            program = drawn_program(draw)
            layout = drawn_layout(draw, program)
            laid = {place for pack in layout[0] for place in pack}
            self.assertEqual(layout_lot(program, layout), tuple(sorted(set(all_rows(program)) - laid)))

    def test_errors(self):
        for thing in STRANGE + [list(EXAMPLE)] + [thing for _, thing in spoilt(EXAMPLE)]:
            self.assertRaises(BadProgram, layout_lot, thing, None)
        good = split_layout(EXAMPLE)
        for thing in STRANGE + [list(good), good[:1], (good[0], good[1][:1])]:
            self.assertRaises(BadLayout, layout_lot, EXAMPLE, thing)
        for _, thing in spoilt(good):
            # An empty pack more leaves it a layout.
            if thing != (good[0] + ((),), good[1]):
                self.assertRaises(BadLayout, layout_lot, EXAMPLE, thing)
        for _, thing in with_odd_objects(good):
            self.assertRaises(BadLayout, layout_lot, EXAMPLE, thing)


class GoodSplitsTest(unittest.TestCase):
    def test_the_told_order_alone(self):
        self.assertEqual(good_splits(EXAMPLE), [split_layout(EXAMPLE)])

    def test_another_order_than_the_told_one(self):
        # The load row does nothing in the layout, so what stands behind it had better come last.
        program = program_of([load(1), show()], [show()], entries=(0, 1))
        packs, doors = split_layout(program)
        self.assertEqual(doors[0], (0, (0, 1)))
        self.assertEqual(good_splits(program), [(packs, ((0, (1, 0)), (1, (1,))))])

    def test_several_orders(self):
        program = program_of([give("a"), load(1)], [give("b")], entries=(0, 1))
        packs, doors = split_layout(program)
        self.assertEqual(good_splits(program), [(packs, ((0, order), (1, (1,)))) for order in ((0, 1), (1, 0))])

    def test_no_order(self):
        program = program_of([show(), load(1), show()], [show()], entries=(0, 1))
        self.assertEqual(good_splits(program), [])

    def test_thirty_six_layouts_and_more(self):
        self.assertEqual([len(numbers) for _, numbers in split_layout(THIRTY_SIX)[1]], [3, 3, 1])
        self.assertEqual(len(second.split_orders(THIRTY_SIX)), 36)
        self.assertEqual(good_splits(THIRTY_SIX), second.harmless_ones(THIRTY_SIX, second.split_orders(THIRTY_SIX)))
        self.assertEqual([len(numbers) for _, numbers in split_layout(MORE)[1]], [4, 2, 1, 1])
        self.assertRaises(TooMany, good_splits, MORE)
        self.assertEqual(split_layout(MORE), second.split_layout(MORE))

    def test_drawn(self):
        found = {0: 0, 1: 0, 2: 0}
        other = 0
        for draw in draws(1500):
            program = drawn_small_program(draw, 8)
            layouts = second.split_orders(program)
            if len(layouts) > 36:
                self.assertRaises(TooMany, good_splits, program)
                continue
            good = second.harmless_ones(program, layouts)
            self.assertEqual(good_splits(program), good, program)
            found[min(len(good), 2)] += 1
            other += bool(good) and split_layout(program) not in good
        self.assertGreater(min(found.values()), 30)
        self.assertGreater(other, 10)


class FewestTest(unittest.TestCase):
    def test_all_in_one_pack(self):
        program = program_of([give("a"), load(1)], [give("b")], entries=(0, 1))
        one = (((0, 0), (0, 1), (1, 0)),)
        self.assertEqual(fewest_packs(program), [(one, ((0, (0,)), (1, (0,))))])

    def test_one_pack_is_not_enough(self):
        self.assertEqual(fewest_packs(EXAMPLE), [split_layout(EXAMPLE)])

    def test_no_packs(self):
        self.assertEqual(fewest_packs(program_of([], [])), [((), ((0, ()),))])

    def test_none_is_harmless(self):
        self.assertEqual(fewest_packs(program_of([show(), load(1), show()], [show()], entries=(0, 1))), [])

    def test_several_ones_with_the_fewest(self):
        # Nobody can ask for what would load part 1, so its pack may stand with either of the others.
        program = program_of([show(), late("d", 1)], [give("a")], [show()], entries=(0, 2))
        rows = ((0, 0), (0, 1))
        self.assertEqual(fewest_packs(program), [
            ((rows, ((1, 0), (2, 0))), ((0, (0,)), (1, (1,)), (2, (1,)))),
            ((rows + ((1, 0),), ((2, 0),)), ((0, (0,)), (1, (0,)), (2, (1,))))])

    def test_a_number_stands_where_it_comes_first(self):
        program = program_of([give("a"), load(2), load(1), late("d", 1)], [give("b")], [show()], entries=(0, 2),
                             opens=[(0, "a")])
        self.assertEqual(split_layout(program)[1], ((0, (0, 2, 1)), (1, (1,)), (2, (2,))))
        rows = ((0, 0), (0, 1), (0, 2), (0, 3))
        self.assertEqual(fewest_packs(program), [
            ((rows, ((1, 0), (2, 0))), ((0, (0, 1)), (1, (1,)), (2, (1,)))),
            ((rows + ((1, 0),), ((2, 0),)), ((0, (0, 1)), (1, (0,)), (2, (1,))))])

    def test_the_rows_of_joined_packs(self):
        program = program_of([hand("a", 1, "a")], [give("a")], [show()], entries=(0, 1, 2))
        told = fewest_packs(program)
        self.assertEqual(told, [((((0, 0), (1, 0)), ((2, 0),)), ((0, (0,)), (1, (0,)), (2, (1,))))])

    def test_drawn(self):
        found = {}
        for draw in draws(500):
            program = drawn_small_program(draw, 8)
            told = fewest_packs(program)
            self.assertEqual(told, second.fewest_packs(program), program)
            for layout in told:
                self.assertTrue(is_layout(program, layout))
            size = (len(told[0][0]) if told else None, min(len(told), 2))
            found[size] = found.get(size, 0) + 1
        self.assertLessEqual({(None, 0), (0, 1), (1, 1), (2, 1), (2, 2), (3, 1)}, set(found))

    def test_four_packs(self):
        for draw in draws(60):
            rows = [draw.choice([give("a"), give("b"), show((3, "a")), late("a", -1), load(3)]) for _ in range(4)]
            program = program_of([load(3), rows[0]], [rows[1], load(3)], [rows[2]], [rows[3]], entries=(0, 1, 2))
            self.assertEqual(len(split_layout(program)[0]), 4)
            self.assertEqual(len(second.joined_layouts(program)), 15)
            self.assertEqual(fewest_packs(program), second.fewest_packs(program), program)


class BuiltTest(unittest.TestCase):
    def test_one_door(self):
        program = program_of([give("a"), hand("b", 1, "d"), load(1), show((0, "a"))], [give("d"), give("c")])
        self.assertEqual(built(program), ("packed", program, ((((0, 0), (0, 3)),), ((0, (0,)),))))
        program = program_of([give("a"), hand("b", 0, "a"), show((0, "b"))])
        other = program_of([give("a"), hand("b", 0, "a"), show((0, "a"))])
        self.assertEqual(built(program), ("packed", other, ((((0, 0), (0, 1), (0, 2)),), ((0, (0,)),))))

    def test_packs_without_rows_stay(self):
        self.assertEqual(built(program_of([give("a")])), ("packed", program_of([give("a")]), (((),), ((0, (0,)),))))
        program = program_of([give("a")], [show()], entries=(0, 1))
        self.assertEqual(built(program), ("packed", program, (((), ((1, 0),)), ((0, (0,)), (1, (1,))))))
        self.assertEqual(built(program_of([])), ("packed", program_of([]), ((), ((0, ()),))))

    def test_several_doors(self):
        self.assertEqual(built(EXAMPLE), ("packed", EXAMPLE, split_layout(EXAMPLE)))
        program = program_of([load(1), show()], [show()], entries=(0, 1))
        self.assertEqual(built(program), ("packed", program, ((((0, 0), (0, 1)), ((1, 0),)), ((0, (1, 0)), (1, (1,))))))

    def test_none(self):
        self.assertIsNone(built(program_of([show(), load(1), show()], [show()], entries=(0, 1))))

    def test_too_many(self):
        self.assertRaises(TooMany, good_splits, MORE)
        self.assertIsNone(built(MORE))

    def test_drawn(self):
        found = {"one": 0, "several": 0, "none": 0, "left out": 0, "shortened": 0}
        for draw in draws(900):
            program = drawn_small_program(draw, 10) if draw.random() < 0.7 else drawn_program(draw)
            other = shortened(program)
            told = built(program)
            layout = None
            if len(doors_of(program)) == 1:
                layout = flat_layout(other)
            elif len(second.split_orders(other)) <= 36:
                layout = next(iter(good_splits(other)), None)
            if layout is None:
                self.assertIsNone(told)
                found["none"] += 1
                continue
            lot = shaken_lot(other, ("loads",))
            packs = tuple(tuple(place for place in pack if place not in lot) for pack in layout[0])
            self.assertEqual(told, ("packed", other, (packs, layout[1])))
            self.assertEqual(answer_to(program, told)[0], "same", program)
            if draw.random() < 0.2:
                self.assertIsNone(trial.walk(program, told)[0], program)
            found["one" if len(layout[1]) == 1 else "several"] += 1
            found["left out"] += packs != layout[0]
            found["shortened"] += other != program
        self.assertGreater(min(found.values()), 15)


class ErrorsTest(unittest.TestCase):
    ALL = [flat_layout, split_layout, good_splits, fewest_packs, built]

    def test_bad_program(self):
        for thing in STRANGE + [list(EXAMPLE), EXAMPLE[:3], list(THIRTY_SIX)] + [thing for _, thing in spoilt(EXAMPLE)]:
            for function in self.ALL:
                self.assertRaises(BadProgram, function, thing)
        for _, thing in with_odd_objects(EXAMPLE):
            for function in self.ALL:
                self.assertRaises(BadProgram, function, thing)


class ResultsTest(unittest.TestCase):
    def test_arguments_by_name(self):
        one = program_of([show()])
        self.assertEqual(flat_layout(program=one), flat_layout(one))
        for function in (split_layout, good_splits, fewest_packs, built):
            self.assertEqual(function(program=EXAMPLE), function(EXAMPLE))
        self.assertEqual(layout_lot(layout=FULL_LAYOUT, program=FULL), layout_lot(FULL, FULL_LAYOUT))

    def test_lists_are_new_and_arguments_stay(self):
        program = copy.deepcopy(EXAMPLE)
        for function in (good_splits, fewest_packs):
            first = function(program)
            self.assertIs(first.__class__, list)
            kept = list(first)
            first.clear()
            self.assertEqual(function(program), kept)
        self.assertEqual(program, EXAMPLE)


if __name__ == "__main__":
    unittest.main()
