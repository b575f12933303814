"""The names and parameters that the document's interface lists, as far as they have landed."""

import inspect
import unittest

from leanbundle import answers, audiences, errors, lots, programs, runs, sure, tables, tool


class InterfaceTest(unittest.TestCase):
    FUNCTIONS = {
        programs.is_program: "(thing)", programs.is_lot: "(program, thing)", programs.is_layout: "(program, thing)",
        programs.all_rows: "(program)", programs.doors_of: "(program)",
        runs.events_of: "(program, run, *, lot=())", runs.state_after: "(program, run, *, lot=())",
        runs.layout_events: "(program, layout, run)", runs.layout_state: "(program, layout, run)",
        answers.answer_to: "(program, made)", answers.answer_holds: "(program, made, answer)",
        answers.paper_holds: "(program, made, pairs)", tables.user_table: "(program, made)",
        lots.done_rows: "(program)", lots.open_rows: "(program)", lots.greatest_lots: "(program)",
        lots.held_rows: "(program)", lots.barred_pairs: "(program)", lots.mends: "(program, lot)",
        audiences.least_audiences: "(program, made)", audiences.blind_audiences: "(program, made)",
        sure.ready_parts: "(program, place)", sure.sure_names: "(program, place)", sure.sure_way: "(program, place, part)",
        sure.found_names: "(program, place)", sure.run_without: "(program, place, need)", sure.shortened: "(program)",
        tool.shaken_lot: "(program, options)", tool.breaking_program: "(options)", tool.sharp_lot: "(program)",
        tool.reason_for: "(program, place, options)", tool.false_marks: "(program)", tool.lean: "(program)",
    }

    def test_functions_have_the_parameters_of_the_interface(self):
        for function, parameters in self.FUNCTIONS.items():
            self.assertEqual(str(inspect.signature(function)), parameters, function.__name__)

    def test_functions_are_defined_in_their_file(self):
        for module, names in (
                (programs, "is_program is_lot is_layout all_rows doors_of"),
                (runs, "events_of state_after layout_events layout_state"),
                (answers, "answer_to answer_holds paper_holds"), (tables, "user_table"),
                (lots, "done_rows open_rows greatest_lots held_rows barred_pairs mends"),
                (audiences, "least_audiences blind_audiences"),
                (sure, "ready_parts sure_names sure_way found_names run_without shortened"),
                (tool, "shaken_lot breaking_program sharp_lot reason_for false_marks lean")):
            for name in names.split():
                self.assertEqual(getattr(module, name).__module__, module.__name__)
                self.assertIn(getattr(module, name), self.FUNCTIONS)

    def test_errors_with_fields_have_the_parameters_of_the_interface(self):
        self.assertEqual(str(inspect.signature(errors.BadRun)), "(place)")
        self.assertEqual(str(inspect.signature(errors.BadText)), "(line)")


if __name__ == "__main__":
    unittest.main()
