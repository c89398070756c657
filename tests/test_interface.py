"""The names, arguments and files of the interface [17]."""

import importlib
import inspect
import unittest

FUNCTIONS = {
    "lateshown.programs": {
        "is_name": ("thing",), "is_deed": ("thing",), "is_line": ("thing",), "how_many_lines": ("program", "stream"),
        "written_at": ("program", "line"), "flushed_at": ("program", "line"), "written_by": ("program", "place"),
        "out_by": ("program", "place"), "may_hold": ("program", "place", "stream"),
        "with_deed": ("program", "place", "deed"), "without_deed": ("program", "place"),
    },
    "lateshown.tables": {
        "is_rows": ("thing",), "number_in": ("rows", "line", "stream"), "is_sure": ("rows", "one", "other"),
        "moments": ("rows",), "in_moment": ("rows", "moment", "line"), "bar": ("rows",), "is_bar": ("rows", "thing"),
        "is_table": ("thing",), "table_of": ("program",), "program_of": ("rows",), "flushes_needed": ("table",),
        "unsure_pairs": ("program",), "within": ("one", "other"), "alike": ("one", "other"), "lost_pair": ("one", "other"),
    },
    "lateshown.outputs": {
        "is_start": ("program", "thing"), "is_output": ("program", "thing"), "broken_at": ("program", "order"),
        "schedule": ("program", "output"), "is_schedule": ("program", "output", "thing"),
        "next_lines": ("program", "lines"), "last_lines": ("program",), "outputs_behind": ("program", "lines"),
        "how_many_outputs": ("program",), "how_many_sets_seen": ("program",), "output_at": ("program", "number"),
        "number_of_output": ("program", "order"), "changes_of": ("order",), "fewest_changes": ("program",),
        "most_changes": ("program",), "with_fewest_changes": ("program",),
    },
    "lateshown.places": {
        "places_of": ("program", "line"), "often_at": ("program", "line"), "mean_place": ("program", "line"),
        "ahead_often": ("program", "one", "other"), "share_ahead": ("program", "one", "other"),
        "can_stand_between": ("program", "one", "other"), "between": ("program", "one", "other"),
        "can_be_neighbours": ("program", "one", "other"), "always_neighbours": ("program", "one", "other"),
        "sure_heads": ("program",), "pieces": ("program",), "swaps": ("program", "one", "other"),
        "far_apart": ("program", "one", "other"), "showing": ("program",), "shows_all": ("program", "outputs"),
    },
    "lateshown.order": {
        "is_idle": ("writes", "flush"), "all_marks": ("writes",), "marks": ("program",),
        "has_mark": ("program", "flush"), "lean": ("program",), "with_marks": ("writes", "flushes"),
        "bare": ("writes",), "full": ("writes",), "join": ("one", "other"), "meet": ("one", "other"),
        "middle": ("one", "other", "third"), "rest": ("one", "other"), "allowed": ("one", "other"),
        "standing": ("one", "other"), "above": ("program",), "below": ("program",), "rank": ("program",),
        "distance": ("one", "other"), "way": ("one", "other"), "is_way": ("one", "other", "programs"),
        "parting_mark": ("one", "other"), "output_against": ("program", "flush"),
    },
    "lateshown.numbers": {
        "how_many_tables": ("writes",), "nth_table": ("writes", "number"), "table_number": ("program",),
        "how_many_surer": ("program",), "how_many_looser": ("program",), "how_many_between": ("one", "other"),
        "nth_between": ("one", "other", "number"), "of_ranks": ("writes",), "of_flushes": ("writes",),
        "how_many_ways": ("one", "other"), "how_many_alike": ("program",), "share_with": ("writes", "flush"),
        "mean_rank": ("writes",),
    },
    "lateshown.wishes": {
        "is_wish": ("program", "thing"), "all_wishes": ("program",), "kept": ("program", "wishes"),
        "put_in": ("program", "spots"), "fewest": ("program", "wishes"), "how_few": ("program", "wishes"),
        "apart": ("program", "wishes"), "is_apart": ("program", "wishes", "thing"),
        "how_many_fewest": ("program", "wishes"), "nth_fewest": ("program", "wishes", "number"),
        "least_cost": ("program", "wishes", "prices"), "cheapest": ("program", "wishes", "prices"),
        "weights": ("program", "wishes", "prices"), "is_weights": ("program", "wishes", "prices", "thing"),
        "least_loss": ("program", "fines", "prices"), "best_loss": ("program", "fines", "prices"),
        "most_kept": ("program", "wishes", "many"), "most_spots": ("program", "wishes", "many"),
        "fewest_beside": ("program", "wishes", "others"), "idle_flushes": ("program",), "thinned": ("program",),
        "how_many_spare": ("program",), "least_wishes": ("program",), "forced": ("program", "wishes"),
    },
    "lateshown.seen": {
        "is_run": ("writes", "thing"), "witness": ("writes", "run", "flush"), "refutes": ("writes", "run", "flush"),
        "refuted_by": ("writes", "run"), "trial": ("writes", "flush"), "is_trial": ("writes", "flush", "thing"),
        "lazy_run": ("program", "stream"), "read_runs": ("writes", "runs"),
    },
    "lateshown.killed": {
        "can_show": ("program", "thing"), "lacking": ("program", "run"), "shown_with": ("program", "lines"),
        "seen_without": ("program", "one", "other"), "lost_with": ("program", "run"), "surely_at": ("program", "place"),
        "stops_of": ("program", "run"), "can_show_at": ("program", "place", "thing"), "how_many_sets": ("program",),
        "how_many_runs": ("program",), "how_many_runs_at": ("program", "place"), "nth_run": ("program", "number"),
        "number_of_run": ("program", "run"),
    },
    "lateshown.trees": {
        "is_tree": ("thing",), "leaves": ("tree",), "way_up": ("tree", "name"), "meeting": ("tree", "one", "other"),
        "through": ("tree", "name"), "reached_at": ("tree", "program", "line", "name"),
        "is_sure_in": ("tree", "program", "one", "other"), "table_in": ("tree", "program"),
        "alike_in": ("tree", "one", "other"), "is_output_in": ("tree", "program", "thing"),
    },
    "lateshown.great": {
        "lines_of": ("great",), "ahead_of": ("great", "line", "stream"), "behind_of": ("great", "line", "stream"),
        "place_range": ("great", "line"), "stand": ("great", "one", "other"), "most_held": ("great", "stream"),
    },
    "lateshown.texts": {
        "line_text": ("line",), "line_in": ("text",), "board_text": ("board",), "board_in": ("text",),
    },
    "lateshown.desk": {"answers": ("text",)},
}
METHODS = {
    ("lateshown.seen", "Seen"): {
        "tell": ("self", "run"), "back": ("self",), "twin": ("self",), "refuted": ("self",), "left": ("self",),
        "fits": ("self", "program"), "why_not": ("self", "program"), "surest": ("self",), "how_many": ("self",),
    },
    ("lateshown.board", "Board"): {
        "sure": ("self", "name", "one", "other"), "sure_for": ("self", "one", "other"), "above": ("self", "name"),
        "doubled": ("self",), "effect": ("self", "name", "program"), "write": ("self", "stream"),
        "leave": ("self", "name"), "frame": ("self", "name", "low", "high"), "lift": ("self", "name"),
        "attempt": ("self", "deeds"), "undo": ("self",), "twin": ("self",),
    },
}
PROPERTIES = {
    ("lateshown.programs", "Program"): ("deeds", "lines", "writes", "streams", "text"),
    ("lateshown.seen", "Seen"): ("writes", "runs"),
    ("lateshown.board", "Board"): ("writes", "names", "frames"),
}
CLASSES = {
    ("lateshown.programs", "Program"): (
        "__init__", "deeds", "lines", "writes", "streams", "text", "of", "__len__", "__getitem__", "__contains__",
        "__eq__", "__add__", "__rshift__"),
    ("lateshown.seen", "Seen"): (
        "__init__", "writes", "runs", "__len__", "__contains__", "__eq__", *METHODS["lateshown.seen", "Seen"]),
    ("lateshown.board", "Board"): (
        "__init__", "writes", "names", "frames", "__len__", "__contains__", "__getitem__", "__setitem__", "__iadd__",
        "__eq__", *METHODS["lateshown.board", "Board"]),
}


class Interface(unittest.TestCase):
    def test_functions_and_their_arguments(self):
        for place, functions in FUNCTIONS.items():
            module = importlib.import_module(place)
            for name, arguments in functions.items():
                told = getattr(module, name)
                self.assertEqual(told.__module__, place, name)
                self.assertEqual(tuple(inspect.signature(told).parameters), arguments, name)

    def test_classes_have_their_methods_themselves(self):
        for (place, name), methods in CLASSES.items():
            told = getattr(importlib.import_module(place), name)
            self.assertEqual(told.__module__, place)
            for method in methods:
                self.assertIn(method, vars(told), name)

    def test_methods_and_their_arguments(self):
        for (place, name), methods in METHODS.items():
            told = getattr(importlib.import_module(place), name)
            for method, arguments in methods.items():
                self.assertEqual(tuple(inspect.signature(vars(told)[method]).parameters), arguments, method)

    def test_properties_without_setters(self):
        for (place, name), properties in PROPERTIES.items():
            told = getattr(importlib.import_module(place), name)
            for own in properties:
                self.assertIsInstance(vars(told)[own], property)
                self.assertIsNone(vars(told)[own].fset, own)

    def test_the_board_and_what_was_seen(self):
        self.assertEqual(str(inspect.signature(importlib.import_module("lateshown.board").Board)), "(writes=())")
        self.assertEqual(str(inspect.signature(importlib.import_module("lateshown.seen").Seen)), "(writes)")

    def test_the_program(self):
        program = importlib.import_module("lateshown.programs").Program
        self.assertEqual(str(inspect.signature(program)), "(deeds=())")
        self.assertIsInstance(vars(program)["of"], staticmethod)
        self.assertEqual(tuple(inspect.signature(program.of).parameters), ("text",))


if __name__ == "__main__":
    unittest.main()
