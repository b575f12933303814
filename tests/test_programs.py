import copy
import unittest

from leanbundle.errors import BadProgram
from leanbundle.programs import all_rows, doors_of, is_layout, is_lot, is_program
from tests.samples import (EXAMPLE, FULL, FULL_LAYOUT, FULL_LOT, HUGE, OUT, STRANGE, changed, give, hand, late, load,
                           program_of, show, spoilt, with_odd_objects)

EMPTY = (((),), (False,), (0,), ())
WIDE = program_of([load(0)] * 5, [load(1)] * 5, [load(2)] * 2, [], entries=(0, 1, 3))


def with_rows(*rows, parts=2):
    """A program of so many parts, the first of them with these rows."""
    return program_of(list(rows), *[[]] * (parts - 1))


class ProgramTest(unittest.TestCase):
    def let(self, *programs):
        for program in programs:
            self.assertIs(is_program(program), True, program)

    def not_let(self, *programs):
        for program in programs:
            self.assertIs(is_program(program), False, program)

    def test_programs(self):
        self.let(EMPTY, EXAMPLE, FULL, WIDE)

    def test_any_object(self):
        self.not_let(*STRANGE)
        self.not_let(EMPTY[:3], EMPTY + ((),), list(EMPTY), (EMPTY,))

    def test_numbers_of_parts(self):
        self.let(*[program_of(*[[]] * many) for many in range(1, 5)])
        self.not_let(program_of(*[[]] * 5), ((), (), (0,), ()), ((), (), (), ()))

    def test_rows_in_a_part(self):
        self.let(with_rows(*[show()] * 5))
        self.not_let(with_rows(*[show()] * 6))
        self.not_let(program_of([], [], [show()] * 6))

    def test_rows_in_all(self):
        self.let(program_of([show()] * 5, [show()] * 5, [show()] * 2))
        self.let(program_of([show()] * 3, [show()] * 3, [show()] * 3, [show()] * 3))
        self.not_let(program_of([show()] * 5, [show()] * 5, [show()] * 3))
        self.not_let(program_of([show()] * 4, [show()] * 3, [show()] * 3, [show()] * 3))

    def test_out_rows(self):
        self.let(with_rows(OUT, OUT), program_of([OUT], [OUT]))
        self.not_let(with_rows(OUT, OUT, OUT), program_of([OUT], [OUT], [OUT]), program_of([OUT, OUT], [OUT]))

    def test_marks(self):
        for marks in ((True, False), (False, False), (True, True)):
            self.let(program_of([], [], marks=marks))
        for marks in ((), (True,), (True, False, True), (1, 0), (True, 0), (None, True), [True, True], None):
            self.not_let((((), ()), marks, (0,), ()))

    def test_entries(self):
        parts = ((), (), (), ())
        for entries in ((0,), (3,), (0, 1), (1, 3), (0, 2, 3), (1, 2, 3)):
            self.let((parts, (True,) * 4, entries, ()))
        for entries in ((), (0, 1, 2, 3), (1, 0), (0, 0), (0, 0, 1), (0, 2, 1), (4,), (-1,), (0, 4), (HUGE,), (-HUGE,),
                        (True,), (False,), (False, True), [0], 0, None, ("0",), ((0,),)):
            self.not_let((parts, (True,) * 4, entries, ()))

    def test_entries_are_numbers_of_the_parts_that_are_there(self):
        self.let(program_of([], entries=(0,)), program_of([], [], entries=(0, 1)))
        self.not_let(program_of([], entries=(1,)), program_of([], [], entries=(0, 2)))

    def test_opens(self):
        names = [(part, name) for part in (0, 1) for name in "abcd"]
        for opens in (names[:0], names[:1], names[7:], names[:4], names[2:6], [(0, "d"), (1, "a")]):
            self.let(program_of([], [], opens=opens))
        for opens in (names[:5], [(0, "b"), (0, "a")], [(1, "a"), (0, "b")], [(0, "a"), (0, "a")], [(2, "a")],
                      [(-1, "a")], [(0, "e")], [(0, "")], [(0, "ab")], [(0, "A")], [(True, "a")], [(False, "a")],
                      [("a", 0)], [(0,)], [(0, "a", "b")], [[0, "a"]], ["0a"], [0], [None], [(HUGE, "a")], [(0, b"a")]):
            self.not_let(program_of([], [], opens=opens))
        self.not_let((((),), (False,), (0,), [(0, "a")]), (((),), (False,), (0,), None))

    def test_load_rows(self):
        self.let(with_rows(load(0)), with_rows(load(1)))
        for part in (2, -1, HUGE, -HUGE, True, False, "0", None, (0,)):
            self.not_let(with_rows(load(part)))
        self.not_let(with_rows(("load",)), with_rows(("load", 0, 0)))

    def test_give_rows(self):
        self.let(with_rows(give("a")), with_rows(give("d", (1, "c"), risky=True)), with_rows(give("b", (0, "b"))))
        self.not_let(with_rows(give("a", (0, "a"), (0, "b"))), with_rows(give("e")), with_rows(("give", "a", ())))
        self.not_let(with_rows(("give", "a", (), False, False)), with_rows(("give", 0, (), False)))

    def test_pass_rows(self):
        self.let(with_rows(hand("a", 1, "b")), with_rows(hand("a", 0, "a")))
        self.not_let(with_rows(hand("a", 2, "b")), with_rows(hand("a", -1, "b")), with_rows(hand("e", 1, "b")))
        self.not_let(with_rows(hand("a", 1, "e")), with_rows(hand("a", True, "b")), with_rows(("pass", "a", 1)))
        self.not_let(with_rows(("pass", "a", 1, "b", False)), with_rows(("pass", "a", "b", 1)))

    def test_show_rows(self):
        self.let(with_rows(show()), with_rows(show((1, "a"), (0, "a"), risky=True)), with_rows(show((1, "a"), (1, "a"))))
        self.not_let(with_rows(show((0, "a"), (0, "b"), (0, "c"))), with_rows(("show", ())))
        self.not_let(with_rows(("show", (), False, False)), with_rows(("show", False, ())))

    def test_out_rows_have_nothing_else(self):
        self.not_let(with_rows(("out", 0)), with_rows(("out", ())), with_rows("out"), with_rows(["out"]))

    def test_late_rows(self):
        self.let(with_rows(late("a", -1)), with_rows(late("a", 0)), with_rows(late("b", 1, (0, "a"), (0, "a"))))
        self.not_let(with_rows(late("a", 2)), with_rows(late("a", -2)), with_rows(late("a", HUGE)))
        self.not_let(with_rows(late("a", -HUGE)), with_rows(late("a", True)), with_rows(late("a", False)))
        self.not_let(with_rows(late("a", 0, (0, "a"), (0, "b"), (0, "c"))), with_rows(late("e", 0)))
        self.not_let(with_rows(("late", "a", 0)), with_rows(("late", "a", 0, (), False)), with_rows(late("a", None)))

    def test_needs(self):
        for need in ((2, "a"), (-1, "a"), (0, "e"), (0, ""), (0, 0), (0,), (0, "a", "a"), [0, "a"], "0a", None,
                     (True, "a"), (False, "a"), (HUGE, "a"), ("a", 0)):
            self.not_let(with_rows(give("a", need)), with_rows(show(need)), with_rows(show((0, "a"), need)))
            self.not_let(with_rows(late("a", 0, need)), with_rows(late("a", -1, (0, "a"), need)))
        for needs in ([], None, [(0, "a")], 0, "", {}, ((0, "a"), None)):
            self.not_let(with_rows(("give", "a", needs, False)), with_rows(("show", needs, False)))
            self.not_let(with_rows(("late", "a", 0, needs)))

    def test_risky_is_true_or_false(self):
        for risky in (0, 1, None, "", "True", (), (True,)):
            self.not_let(with_rows(("give", "a", (), risky)), with_rows(("show", (), risky)))

    def test_other_rows(self):
        for row in STRANGE + [("Load", 0), ("loads", 0), (b"load", 0), ("none",), (0, 0), (None, "a"), (("load", 0),)]:
            if row != load(0):
                self.not_let(with_rows(row), with_rows(show(), row), program_of([], [row]))

    def test_each_spot_asks_for_its_own_kind(self):
        for way, thing in spoilt(FULL):
            self.assertIs(is_program(thing), False, (way, thing))

    def test_parts_marks_entries_and_opens_of_other_kinds(self):
        for at in range(4):
            for thing in STRANGE:
                program = changed(EMPTY, (at,), thing)
                if program != EMPTY:
                    self.not_let(program)


class LotTest(unittest.TestCase):
    def test_lots(self):
        for lot in ((), FULL_LOT, tuple(all_rows(FULL)), ((0, 4),), ((0, 4), (1, 3))):
            self.assertIs(is_lot(FULL, lot), True, lot)

    def test_no_lots(self):
        for lot in (((0, 1), (0, 0)), ((1, 0), (0, 0)), ((0, 0), (0, 0)), ((0, 5),), ((1, 4),), ((2, 0),), ((3, 0),),
                    ((-1, 0),), ((0, -1),), ((HUGE, 0),), ((0, HUGE),), ((-HUGE, 0),), (0, 0), ((0,),), ((0, 0, 0),),
                    ((True, 0),), ((0, True),), ((False, False),), ((0, 0), (0, True)), [(0, 0)], ([0, 0],), ((0, "0"),),
                    ((0, 0), None), ((0, None),), "", ("",), None, 0, False, {}):
            self.assertIs(is_lot(FULL, lot), False, lot)

    def test_any_object(self):
        for thing in STRANGE:
            self.assertIs(is_lot(FULL, thing), thing == () and isinstance(thing, tuple), thing)
            self.assertIs(is_lot(FULL, (thing,)), isinstance(thing, tuple) and thing == (0, 0), thing)

    def test_each_spot_asks_for_its_own_kind(self):
        for way, thing in spoilt(FULL_LOT):
            self.assertIs(is_lot(FULL, thing), False, (way, thing))

    def test_rows_are_those_of_the_program(self):
        self.assertIs(is_lot(EMPTY, ((0, 0),)), False)
        self.assertIs(is_lot(EMPTY, ()), True)


class LayoutTest(unittest.TestCase):
    PROGRAM = program_of([show(), show()], [late("a", 2)], [show()], [], entries=(0, 3))
    DOORS = ((0, ()), (2, ()), (3, ()))

    def is_one(self, packs, doors=DOORS):
        return is_layout(self.PROGRAM, (packs, doors))

    def test_layouts(self):
        self.assertIs(is_layout(FULL, FULL_LAYOUT), True)
        for packs in ((), ((),), ((), ()), (((0, 0),),), (((2, 0), (0, 1), (0, 0)), (), ((1, 0),)), ((),) * 8):
            self.assertIs(self.is_one(packs), True, packs)

    def test_numbers_of_packs(self):
        self.assertIs(self.is_one(((),) * 9), False)

    def test_packs(self):
        for packs in (((0, 0),), ((0,),), (((0, 0), (0, 0)),), (((0, 0),), ((0, 0),)), (((0, 2),),), (((3, 0),),),
                      (((4, 0),),), (((-1, 0),),), (((0, -1),),), ([(0, 0)],), [()], (None,), ((None,),), (((False, 0),),),
                      (((0, True),),), (((0, HUGE),),), (([0, 0],),), (((0, 0, 0),),), ("",), None, 0, (0,)):
            self.assertIs(self.is_one(packs), False, packs)

    def test_doors(self):
        packs = ((), (), ())
        for doors in (((0, (0,)), (2, (2, 1, 0)), (3, (1, 2))), ((0, (0, 1)), (2, (0, 1)), (3, (1, 0)))):
            self.assertIs(self.is_one(packs, doors), True, doors)
        for doors in ((), self.DOORS[:2], self.DOORS[1:], self.DOORS + ((1, ()),), ((0, ()), (1, ()), (2, ()), (3, ())),
                      ((2, ()), (0, ()), (3, ())), ((0, ()), (2, ()), (2, ())), ((0, ()), (0, ()), (2, ()), (3, ())),
                      ((0, (3,)), (2, ()), (3, ())), ((0, (-1,)), (2, ()), (3, ())), ((0, (0, 0)), (2, ()), (3, ())),
                      ((0, (HUGE,)), (2, ()), (3, ())), ((0, (True,)), (2, ()), (3, ())), ((0, [0]), (2, ()), (3, ())),
                      ((False, ()), (2, ()), (3, ())), ([0, ()], (2, ()), (3, ())), ((0,), (2, ()), (3, ())),
                      ((0, (), ()), (2, ()), (3, ())), ((0, 0), (2, ()), (3, ())), ((0, None), (2, ()), (3, ())),
                      (None, (2, ()), (3, ())), (0, 2, 3), list(self.DOORS), None, 0, {0: (), 2: (), 3: ()}):
            self.assertIs(self.is_one(packs, doors), False, doors)

    def test_numbers_are_those_of_the_packs_that_are_there(self):
        self.assertIs(self.is_one((), ((0, (0,)), (2, ()), (3, ()))), False)
        self.assertIs(self.is_one(((),), ((0, (0,)), (2, ()), (3, ()))), True)
        self.assertIs(self.is_one(((),), ((0, (0,)), (2, ()), (3, (1,)))), False)

    def test_any_object(self):
        for thing in STRANGE + [((),), ((), (), ()), ((), self.DOORS, ()), [(), self.DOORS]]:
            self.assertIs(is_layout(self.PROGRAM, thing), False, thing)

    def test_each_spot_asks_for_its_own_kind(self):
        for way, thing in spoilt(FULL_LAYOUT):
            # One more empty pack is another layout.
            if thing != (FULL_LAYOUT[0] + ((),), FULL_LAYOUT[1]):
                self.assertIs(is_layout(FULL, thing), False, (way, thing))


class RowsAndDoorsTest(unittest.TestCase):
    def test_all_rows(self):
        self.assertEqual(all_rows(EMPTY), [])
        self.assertEqual(all_rows(EXAMPLE), [(0, 0), (0, 1), (1, 0)])
        self.assertEqual(all_rows(program_of([], [OUT], [], [OUT, show()])), [(1, 0), (3, 0), (3, 1)])

    def test_doors(self):
        self.assertEqual(doors_of(EMPTY), [0])
        self.assertEqual(doors_of(EXAMPLE), [0, 1])
        self.assertEqual(doors_of(program_of([late("a", 3), late("b", 1)], [], [], [], entries=(2,))), [1, 2, 3])
        self.assertEqual(doors_of(program_of([late("a", 0), late("b", 0)], [late("c", 0)], entries=(0, 1))), [0, 1])

    def test_the_part_of_a_late_row_may_be_none(self):
        self.assertEqual(doors_of(program_of([late("a", -1)], [], entries=(1,))), [1])

    def test_load_and_pass_rows_name_no_doors(self):
        self.assertEqual(doors_of(program_of([load(1), hand("a", 2, "a")], [], [])), [0])

    def test_a_late_row_that_is_never_done_names_a_door_too(self):
        self.assertEqual(doors_of(program_of([], [late("a", 2)], [])), [0, 2])

    def test_lists_are_new(self):
        for function in (all_rows, doors_of):
            first = function(FULL)
            kept = list(first)
            first.append(None)
            first[0] = None
            self.assertEqual(function(FULL), kept)
            self.assertIsInstance(first, list)

    def test_bad_program(self):
        for thing in STRANGE + [program_of(*[[]] * 5), list(FULL), FULL[:3]]:
            for call in (lambda: all_rows(thing), lambda: doors_of(thing), lambda: is_lot(thing, ()),
                         lambda: is_lot(thing, None), lambda: is_layout(thing, ((), ())),
                         lambda: is_layout(thing, None)):
                self.assertRaises(BadProgram, call)

    def test_bad_program_at_each_spot(self):
        for way, thing in spoilt(FULL):
            with self.subTest(way=way):
                self.assertRaises(BadProgram, all_rows, thing)
                self.assertRaises(BadProgram, doors_of, thing)

    def test_objects_with_odd_comparisons(self):
        for way, thing in with_odd_objects(FULL):
            self.assertIs(is_program(thing), False, way)
            self.assertRaises(BadProgram, is_lot, thing, ())
        for way, thing in with_odd_objects(FULL_LOT):
            self.assertIs(is_lot(FULL, thing), False, way)
        for way, thing in with_odd_objects(FULL_LAYOUT):
            self.assertIs(is_layout(FULL, thing), False, way)

    def test_arguments_by_name(self):
        self.assertIs(is_program(thing=FULL), True)
        self.assertIs(is_lot(program=FULL, thing=FULL_LOT), True)
        self.assertIs(is_layout(thing=FULL_LAYOUT, program=FULL), True)
        self.assertEqual(all_rows(program=EXAMPLE), [(0, 0), (0, 1), (1, 0)])
        self.assertEqual(doors_of(program=EXAMPLE), [0, 1])

    def test_arguments_stay_as_they_were(self):
        things = [FULL, list(FULL), {"a": [1]}, [[(0, 0)]], FULL_LAYOUT, [FULL_LAYOUT]]
        kept = copy.deepcopy(things)
        for thing in things:
            is_program(thing)
            is_lot(FULL, thing)
            is_layout(FULL, thing)
        self.assertEqual(things, kept)


if __name__ == "__main__":
    unittest.main()
