"""The names of the interface and their arguments."""

import ast
import importlib
import inspect
import unittest
from pathlib import Path

PACKAGE = Path(__file__).resolve().parent.parent / "tidefold"
FUNCTIONS = {
    "tokens": ["tokens(text)"],
    "parsing": ["parse_plan(text)"],
    "printing": ["print_plan(plan)", "sources(plan)"],
    "bags": [
        "changes_of(pairs)",
        "added(bag, changes)",
        "between(before, after)",
        "final(bag, mark)",
        "not_final(bag, mark)",
        "count_of(bag, row)",
    ],
    "operators": [
        "staged(stage, changes)",
        "once(bag)",
        "windows(bag, size, slide, aggregate)",
        "sittings(bag, gap, aggregate)",
        "near(left, right, before, after, combination)",
        "without(left, right)",
        "less(left, right)",
        "window_starts(time, size, slide)",
    ],
    "meaning": ["result(plan, tables)"],
    "shows": ["narrowed(show, stage)", "shown(show, changes)", "shows(plan)"],
    "classes": [
        "is_shown(show, value)",
        "shows_all(show)",
        "class_above(show, value)",
        "class_below(show, value)",
        "count_limit(show)",
        "token(show)",
    ],
    "marks": [
        "windows_mark(mark, size, slide)",
        "sittings_mark(bag, mark, gap)",
        "near_mark(left, right, left_mark, right_mark, before, after)",
        "without_mark(left, left_mark, right_mark)",
        "plan_mark(plan, tables, marks)",
    ],
    "kept": [
        "keep_windows(bag, mark, size, slide, aggregate, show)",
        "keep_sittings(bag, mark, gap, aggregate, show)",
        "keep_once(bag, mark, show)",
    ],
    "kept_pairs": [
        "keep_near(left, right, left_mark, right_mark, before, after, combination, show)",
        "keep_without(left, right, left_mark, right_mark, show)",
        "keep_less(left, right, left_mark, right_mark, show)",
    ],
    "tell_windows": ["tell_windows(first, second, mark, size, slide, aggregate, show)"],
    "tell_sittings": ["tell_sittings(first, second, mark, gap, aggregate, show)"],
    "tell_pairs": [
        "tell_near(first, second, left_mark, right_mark, before, after, combination, show)",
        "tell_without(first, second, left_mark, right_mark, show)",
        "tell_less(first, second, left_mark, right_mark, show)",
    ],
}
CLASSES = {
    "errors": ["FlowError", "PlanError", "NoSuchSource", "LateRow", "NotThere", "MarkGoesBack"],
    "flow": ["Flow"],
}
METHODS_OF_FLOW = [
    "put(self, name, row)",
    "take(self, name, row)",
    "move(self, name, mark)",
    "mark(self)",
    "mark_of(self, name)",
    "kept(self)",
    "state(self)",
    "fork(self)",
    "opened(plan, state)",
]


def defined_in(name, kind):
    tree = ast.parse((PACKAGE / f"{name}.py").read_text("utf-8"))
    return [node.name for node in tree.body if isinstance(node, kind)]


class Interface(unittest.TestCase):
    def test_functions_are_defined_in_their_files(self):
        for name, functions in FUNCTIONS.items():
            module = importlib.import_module(f"tidefold.{name}")
            for written in functions:
                word = written.partition("(")[0]
                self.assertIn(word, defined_in(name, ast.FunctionDef))
                self.assertEqual(f"{word}{inspect.signature(getattr(module, word))}", written)

    def test_classes_are_defined_in_their_files(self):
        for name, classes in CLASSES.items():
            for word in classes:
                self.assertIn(word, defined_in(name, ast.ClassDef))

    def test_methods_are_defined_in_their_class(self):
        flow = importlib.import_module("tidefold.flow").Flow
        self.assertEqual(str(inspect.signature(flow)), "(plan)")
        for written in METHODS_OF_FLOW:
            word = written.partition("(")[0]
            self.assertIn(word, vars(flow))
            self.assertEqual(f"{word}{inspect.signature(getattr(flow, word))}", written)
        self.assertIs(type(vars(flow)["opened"]), staticmethod)

    def test_the_show_of_no_stages_is_a_value(self):
        self.assertEqual(importlib.import_module("tidefold.shows").ALL, (None, None, None, (), 1, None))


if __name__ == "__main__":
    unittest.main()
