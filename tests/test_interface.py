"""The names and parameters that the document's interface lists, as far as they have landed."""

import inspect
import unittest

from leanbundle import (answers, audiences, desk, errors, live, lots, packs, programs, runs, sure, tables, texts,
                        tool)


class InterfaceTest(unittest.TestCase):
    FUNCTIONS = {
        programs.is_program: "(thing)", programs.is_lot: "(program, thing)", programs.is_layout: "(program, thing)",
        programs.all_rows: "(program)", programs.doors_of: "(program)",
        runs.events_of: "(program, run, *, lot=())", runs.state_after: "(program, run, *, lot=())",
        runs.layout_events: "(program, layout, run)", runs.layout_state: "(program, layout, run)",
        answers.answer_to: "(program, made)", answers.answer_holds: "(program, made, answer)",
        answers.paper_holds: "(program, made, pairs)", tables.user_table: "(program, made)",
        lots.done_rows: "(program)", lots.open_rows: "(program)", lots.greatest_lots: "(program)",
        lots.held_rows: "(program)", lots.barred_pairs: "(program)", lots.mends: "(program, lot)",
        audiences.least_audiences: "(program, made)", audiences.blind_audiences: "(program, made)",
        sure.ready_parts: "(program, place)", sure.sure_names: "(program, place)", sure.sure_way: "(program, place, part)",
        sure.found_names: "(program, place)", sure.run_without: "(program, place, need)", sure.shortened: "(program)",
        tool.shaken_lot: "(program, options)", tool.breaking_program: "(options)", tool.sharp_lot: "(program)",
        tool.reason_for: "(program, place, options)", tool.false_marks: "(program)", tool.lean: "(program)",
        packs.flat_layout: "(program)", packs.split_layout: "(program)", packs.layout_lot: "(program, layout)",
        packs.good_splits: "(program)", packs.fewest_packs: "(program)", packs.built: "(program)",
        texts.show_program: "(program)", texts.show_lot: "(program, lot)", texts.show_layout: "(program, layout)",
        texts.read_program: "(text)", texts.read_lot: "(program, text)", texts.read_layout: "(program, text)",
    }
    METHODS = {
        live.Bundle: {
            "load": "(self, part)", "ask": "(self, part, name)", "back": "(self)", "leave": "(self, place)",
            "take_back": "(self, place)", "fail": "(self, place)", "mark": "(self, part, value)", "shake": "(self, options)",
            "undo": "(self)", "events": "(self)", "state": "(self)", "lot": "(self)", "program": "(self)", "safe": "(self)",
            "copy": "(self)", "__len__": "(self)", "__eq__": "(self, other)"},
        desk.Desk: {"say": "(self, row)"},
    }

    def test_functions_have_the_parameters_of_the_interface(self):
        for function, parameters in self.FUNCTIONS.items():
            self.assertEqual(str(inspect.signature(function)), parameters, function.__name__)

    def test_functions_are_defined_in_their_file(self):
        for module, names in (
                (programs, "is_program is_lot is_layout all_rows doors_of"),
                (runs, "events_of state_after layout_events layout_state"),
                (answers, "answer_to answer_holds paper_holds"), (tables, "user_table"),
                (lots, "done_rows open_rows greatest_lots held_rows barred_pairs mends"),
                (audiences, "least_audiences blind_audiences"),
                (sure, "ready_parts sure_names sure_way found_names run_without shortened"),
                (tool, "shaken_lot breaking_program sharp_lot reason_for false_marks lean"),
                (packs, "flat_layout split_layout layout_lot good_splits fewest_packs built"),
                (texts, "show_program show_lot show_layout read_program read_lot read_layout")):
            for name in names.split():
                self.assertEqual(getattr(module, name).__module__, module.__name__)
                self.assertIn(getattr(module, name), self.FUNCTIONS)

    def test_methods_are_defined_in_the_class_itself(self):
        for owner, methods in self.METHODS.items():
            for name, parameters in methods.items():
                self.assertEqual(str(inspect.signature(vars(owner)[name])), parameters, name)
        self.assertIn("__contains__", vars(live.Bundle))
        self.assertIsInstance(vars(live.Bundle)["failing"], property)
        self.assertEqual(str(inspect.signature(live.Bundle)), "(program)")
        self.assertEqual(str(inspect.signature(desk.Desk)), "()")
        self.assertEqual((live.Bundle.__module__, desk.Desk.__module__), ("leanbundle.live", "leanbundle.desk"))

    def test_errors_with_fields_have_the_parameters_of_the_interface(self):
        self.assertEqual(str(inspect.signature(errors.BadRun)), "(place)")
        self.assertEqual(str(inspect.signature(errors.BadText)), "(line)")


if __name__ == "__main__":
    unittest.main()
