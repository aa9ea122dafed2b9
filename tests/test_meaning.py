"""The results of plans (points 11 and 12)."""

import unittest
from copy import deepcopy

from calling import called, check_form
from counting import result_by_counting
from drawn import drawings
from tidefold.meaning import result
from tidefold.parsing import parse_plan

X = (1, "x", 4)
Y = (2, "y", -1)


class Results(unittest.TestCase):
    def check(self, text, tables, expected):
        self.assertEqual(called(self, result, parse_plan(text), tables), expected)

    def test_a_source_is_its_bag(self):
        self.check("a", {"a": [(X, 2), (Y, 1)]}, [(X, 2), (Y, 1)])
        self.check("b", {"a": [(X, 2)], "b": []}, [])

    def test_both_adds_the_counts(self):
        self.check("both(a, b)", {"a": [(X, 2)], "b": [(X, 3), (Y, 1)]}, [(X, 5), (Y, 1)])
        self.check("both(a, a)", {"a": [(X, 2)]}, [(X, 4)])
        self.check("both(a, b)", {"a": [], "b": []}, [])

    def test_left_and_right_are_not_exchanged(self):
        tables = {"a": [(X, 2)], "b": [((1, "x", 6), 1), (Y, 1)]}
        self.check("less(a, b)", tables, [(X, 2)])
        self.check("less(b, a)", tables, [((1, "x", 6), 1), (Y, 1)])
        self.check("without(a, b)", tables, [])
        self.check("without(b, a)", tables, [(Y, 1)])
        self.check("near 0 0 difference(a, b)", tables, [((1, "x", -2), 2)])
        self.check("near 0 0 difference(b, a)", tables, [((1, "x", 2), 2)])

    def test_before_and_after_are_not_exchanged(self):
        tables = {"a": [((0, "x", 1), 1)], "b": [((-2, "x", 5), 1), ((3, "x", 7), 1)]}
        self.check("near 2 0 right(a, b)", tables, [((0, "x", 5), 1)])
        self.check("near 0 3 right(a, b)", tables, [((3, "x", 7), 1)])

    def test_size_and_slide_are_not_exchanged(self):
        self.check("a | windows 4 2 count", {"a": [((0, "x", 1), 1)]}, [((1, "x", 1), 1), ((3, "x", 1), 1)])
        self.check("a | windows 2 4 count", {"a": [((0, "x", 1), 1)]}, [((1, "x", 1), 1)])

    def test_operators_apply_to_what_stands_to_their_left(self):
        tables = {"a": [((0, "x", 2), 3), ((0, "x", 5), 1)]}
        self.check("a | once | windows 1 1 sum", tables, [((0, "x", 7), 1)])
        self.check("a | windows 1 1 sum | once", tables, [((0, "x", 11), 1)])
        self.check("a | scale 0 | once", tables, [((0, "x", 0), 1)])
        self.check("a | once | scale 0", tables, [((0, "x", 0), 2)])
        self.check("a | later 3 | sittings 2 count", tables, [((5, "x", 4), 1)])
        self.check("less(a, a | sift > 2)", tables, [((0, "x", 2), 3)])

    def test_a_source_that_stands_several_times(self):
        tables = {"a": [((0, "x", 2), 3), ((4, "x", 5), 1)]}
        self.check("near 0 5 sum(a, a)", tables, [((0, "x", 4), 9), ((4, "x", 7), 3), ((4, "x", 10), 1)])
        self.check("less(a, a)", tables, [])
        self.check("without(a, a | only y)", tables, tables["a"])

    def test_the_lists_are_new(self):
        tables = {"a": [(X, 2)], "b": []}
        before = deepcopy(tables)
        for text in ("a", "both(a, b)", "less(a, b)", "without(a, b)", "a | later 0", "a | scale 1", "a | once"):
            result(parse_plan(text), tables).clear()
            self.assertEqual(tables, before, text)

    def test_drawn_plans(self):
        words = {}
        full = 0
        for drawing in drawings(3000, 4600):
            plan = drawing.plan(drawing.random.randint(1, 15), 4)
            tables = {name: drawing.bag(6) for name in ("a", "b", "c")}
            found = called(self, result, plan, tables)
            check_form(self, found)
            self.assertEqual(found, result_by_counting(plan, tables), plan)
            words[plan[0]] = words.get(plan[0], 0) + 1
            full += found != []
        self.assertTrue(all(many > 100 for many in words.values()), words)
        self.assertEqual(len(words), 9)
        self.assertGreater(full, 1500)

    def test_drawn_plans_of_all_levels(self):
        for drawing in drawings(150, 4700):
            plan = drawing.plan(20, 10)
            tables = {name: drawing.bag(3) for name in ("a", "b", "c")}
            found = called(self, result, plan, tables)
            check_form(self, found)
            self.assertEqual(found, result_by_counting(plan, tables), plan)


if __name__ == "__main__":
    unittest.main()
