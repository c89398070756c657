"""The names, arguments and files of the interface [17]."""

import importlib
import inspect
import unittest

FUNCTIONS = {
    "lateshown.programs": {
        "is_name": ("thing",), "is_deed": ("thing",), "is_line": ("thing",), "how_many_lines": ("program", "stream"),
        "written_at": ("program", "line"), "flushed_at": ("program", "line"), "written_by": ("program", "place"),
        "out_by": ("program", "place"), "may_hold": ("program", "place", "stream"),
        "with_deed": ("program", "place", "deed"), "without_deed": ("program", "place"),
    },
    "lateshown.tables": {
        "is_rows": ("thing",), "number_in": ("rows", "line", "stream"), "is_sure": ("rows", "one", "other"),
        "moments": ("rows",), "in_moment": ("rows", "moment", "line"), "bar": ("rows",), "is_bar": ("rows", "thing"),
        "is_table": ("thing",), "table_of": ("program",), "program_of": ("rows",), "flushes_needed": ("table",),
        "unsure_pairs": ("program",), "within": ("one", "other"), "alike": ("one", "other"), "lost_pair": ("one", "other"),
    },
}
CLASSES = {
    ("lateshown.programs", "Program"): (
        "__init__", "deeds", "lines", "writes", "streams", "text", "of", "__len__", "__getitem__", "__contains__",
        "__eq__", "__add__", "__rshift__"),
}


class Interface(unittest.TestCase):
    def test_functions_and_their_arguments(self):
        for place, functions in FUNCTIONS.items():
            module = importlib.import_module(place)
            for name, arguments in functions.items():
                told = getattr(module, name)
                self.assertEqual(told.__module__, place, name)
                self.assertEqual(tuple(inspect.signature(told).parameters), arguments, name)

    def test_classes_have_their_methods_themselves(self):
        for (place, name), methods in CLASSES.items():
            told = getattr(importlib.import_module(place), name)
            self.assertEqual(told.__module__, place)
            for method in methods:
                self.assertIn(method, vars(told), name)

    def test_the_program(self):
        program = importlib.import_module("lateshown.programs").Program
        self.assertEqual(str(inspect.signature(program)), "(deeds=())")
        self.assertIsInstance(vars(program)["of"], staticmethod)
        self.assertEqual(tuple(inspect.signature(program.of).parameters), ("text",))


if __name__ == "__main__":
    unittest.main()
