"""Tests that all names of the interface exist, in their files and with their arguments."""

import importlib
import inspect
import unittest

FUNCTIONS = {
    "webs": {
        "is_web": ["thing"], "ring_in": ["web"], "heap_web": ["most", "takes"],
        "joined_webs": ["one", "other"], "paired_web": ["one", "other"],
    },
    "numbers": {
        "numbers_of": ["web"], "lengths_of": ["web"], "shown_moves": ["web", "spot"], "laid_over": ["numbers"],
    },
    "rows": {"moves_in": ["web", "row"], "played": ["web", "row", "move"], "row_number": ["web", "row"]},
    "deciding": {"is_lost": ["web", "row"], "good_moves": ["web", "row"], "parting_row": ["web", "one", "other"]},
}


class InterfaceTest(unittest.TestCase):
    def test_functions_are_defined_in_their_files_with_their_arguments(self):
        for file, functions in FUNCTIONS.items():
            module = importlib.import_module("spotsums." + file)
            for name, arguments in functions.items():
                with self.subTest(file, name=name):
                    function = getattr(module, name)
                    self.assertTrue(inspect.isfunction(function))
                    self.assertEqual(function.__name__, name)
                    self.assertEqual(function.__module__, "spotsums." + file)
                    self.assertEqual(list(inspect.signature(function).parameters), arguments)
