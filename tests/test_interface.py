"""The names and parameters that the document's interface lists, as far as they have landed."""

import inspect
import unittest

from leanbundle import errors, programs, runs


class InterfaceTest(unittest.TestCase):
    FUNCTIONS = {
        programs.is_program: "(thing)", programs.is_lot: "(program, thing)", programs.is_layout: "(program, thing)",
        programs.all_rows: "(program)", programs.doors_of: "(program)",
        runs.events_of: "(program, run, *, lot=())", runs.state_after: "(program, run, *, lot=())",
        runs.layout_events: "(program, layout, run)", runs.layout_state: "(program, layout, run)",
    }

    def test_functions_have_the_parameters_of_the_interface(self):
        for function, parameters in self.FUNCTIONS.items():
            self.assertEqual(str(inspect.signature(function)), parameters, function.__name__)

    def test_functions_are_defined_in_their_file(self):
        for module, names in ((programs, ["is_program", "is_lot", "is_layout", "all_rows", "doors_of"]),
                              (runs, ["events_of", "state_after", "layout_events", "layout_state"])):
            for name in names:
                self.assertEqual(getattr(module, name).__module__, module.__name__)

    def test_errors_with_fields_have_the_parameters_of_the_interface(self):
        self.assertEqual(str(inspect.signature(errors.BadRun)), "(place)")
        self.assertEqual(str(inspect.signature(errors.BadText)), "(line)")


if __name__ == "__main__":
    unittest.main()
