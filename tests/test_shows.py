"""Shows (points 6, 19, 20 and 39)."""

import unittest

from calling import called, check_form
from counting import operators_with_stages, row_behind_all, show_by_counting, shown_by_counting
from drawn import MANY_DIGITS, drawings
from tidefold.classes import is_shown
from tidefold.parsing import parse_plan
from tidefold.shows import ALL, narrowed, shown, shows


def show_of(stages):
    show = ALL
    for stage in stages:
        show = narrowed(show, stage)
    return show


def sifts(*written):
    """Return sifts that are written as a comparison and a bound."""
    found = []
    for text in written:
        comparison, bound = text.split()
        found.append(("sift", comparison, int(bound)))
    return found


class Narrowed(unittest.TestCase):
    def check(self, stages, expected):
        self.assertEqual(show_of(stages), expected, stages)
        self.assertEqual(show_by_counting(stages), expected, stages)

    def test_no_stages(self):
        self.assertEqual(ALL, (None, None, None, (), 1, None))
        self.check([], (None, None, None, (), 1, None))

    def test_the_example_of_the_interface(self):
        self.check([("scale", -2), ("sift", "<", 5)], (None, -2, None, (), -2, None))

    def test_every_comparison(self):
        for comparison, low, high, holes in (
            ("<", None, 4, ()),
            ("<=", None, 5, ()),
            ("=", 5, 5, ()),
            ("!=", None, None, (5,)),
            (">=", 5, None, ()),
            (">", 6, None, ()),
        ):
            self.check([("sift", comparison, 5)], (None, low, high, holes, 1, None))

    def test_every_comparison_behind_a_factor(self):
        for comparison, factor, bound, low, high, holes in (
            ("<", 3, 7, None, 2, ()),
            ("<", 3, 6, None, 1, ()),
            ("<=", 3, 6, None, 2, ()),
            ("<=", 3, 5, None, 1, ()),
            ("=", 3, 6, 2, 2, ()),
            ("!=", 3, 6, None, None, (2,)),
            ("!=", 3, 7, None, None, ()),
            (">=", 3, 6, 2, None, ()),
            (">=", 3, 7, 3, None, ()),
            (">", 3, 6, 3, None, ()),
            (">", 3, 5, 2, None, ()),
            ("<", -3, 6, -1, None, ()),
            ("<", -3, 7, -2, None, ()),
            ("<=", -3, 6, -2, None, ()),
            ("=", -3, 6, -2, -2, ()),
            ("!=", -3, 6, None, None, (-2,)),
            ("!=", -3, -7, None, None, ()),
            (">=", -3, 6, None, -2, ()),
            (">=", -3, 7, None, -3, ()),
            (">", -3, 6, None, -3, ()),
            (">", -3, -7, None, 2, ()),
        ):
            stages = [("scale", factor), ("sift", comparison, bound)]
            self.check(stages, (None, low, high, holes, factor, None))

    def test_a_value_that_is_no_multiple_of_the_factor(self):
        self.check([("scale", 3), ("sift", "=", 7)], None)
        self.check([("scale", -3), ("sift", "=", 7)], None)

    def test_a_factor_of_0(self):
        for comparison, bound in (("<", 1), ("<=", 0), ("=", 0), ("!=", 1), (">=", 0), (">", -1)):
            self.check([("scale", 0), ("sift", comparison, bound)], (None, None, None, (), 0, None))
        for comparison, bound in (("<", 0), ("<=", -1), ("=", 1), ("!=", 0), (">=", 1), (">", 0)):
            self.check([("scale", 0), ("sift", comparison, bound)], None)
        self.check([("scale", 2), ("scale", 0), ("scale", 3)], (None, None, None, (), 0, None))

    def test_values_stay_as_they_were_sifted_before_a_factor_of_0(self):
        stages = sifts("> 3", "!= 7", "< 20") + [("scale", 0)] + sifts("< 1", "!= 5")
        self.check(stages, (None, 4, 19, (7,), 0, None))

    def test_factors_are_multiplied(self):
        self.check([("scale", 2), ("scale", -3), ("sift", ">", 12)], (None, None, -3, (), -6, None))
        self.check([("sift", "=", 0), ("scale", 5)], (None, 0, 0, (), 5, None))

    def test_holes_stand_in_order_and_once(self):
        self.check(sifts("!= 5", "!= -5", "!= 0", "!= 5"), (None, None, None, (-5, 0, 5), 1, None))

    def test_holes_beyond_the_bounds_are_left_out(self):
        self.check(sifts("!= 5", "!= 9", "< 7"), (None, None, 6, (5,), 1, None))
        self.check(sifts("< 7", "!= 9", "!= 5"), (None, None, 6, (5,), 1, None))
        self.check(sifts("!= -5", "!= 1", ">= 0"), (None, 0, None, (1,), 1, None))

    def test_bounds_are_no_holes(self):
        self.check(sifts("!= 5", "!= 7", "!= 6", ">= 5"), (None, 8, None, (), 1, None))
        self.check(sifts(">= 5", "!= 7", "!= 6", "!= 5"), (None, 8, None, (), 1, None))
        self.check(sifts("<= 5", "!= 3", "!= 4", "!= 5"), (None, None, 2, (), 1, None))
        self.check(sifts(">= 1", "<= 5", "!= 1", "!= 3", "!= 5"), (None, 2, 4, (3,), 1, None))

    def test_no_value_is_left(self):
        self.check(sifts("> 3", "< 4"), None)
        self.check(sifts(">= 3", "<= 3"), (None, 3, 3, (), 1, None))
        self.check(sifts(">= 3", "<= 3", "!= 3"), None)
        self.check(sifts("!= 4", "!= 3", "!= 5", ">= 3", "<= 5"), None)
        self.check(sifts("= 3", "= 4"), None)
        self.check(sifts("> 9", "< -9"), None)

    def test_only(self):
        self.check([("only", ("a", "b"))], (("a", "b"), None, None, (), 1, None))
        self.check([("only", ("a", "b", "c")), ("only", ("b", "c", "d"))], (("b", "c"), None, None, (), 1, None))
        self.check([("only", ("a", "b")), ("only", ("c",))], None)
        self.check([("only", ())], None)

    def test_rekey(self):
        self.check([("rekey", "a")], (None, None, None, (), 1, "a"))
        self.check([("rekey", "a"), ("rekey", "b")], (None, None, None, (), 1, "b"))

    def test_only_behind_rekey(self):
        self.check([("rekey", "a"), ("only", ("a", "b"))], (None, None, None, (), 1, "a"))
        self.check([("rekey", "a"), ("only", ("b",))], None)
        stages = [("only", ("x", "y")), ("rekey", "a"), ("only", ("a",)), ("rekey", "c")]
        self.check(stages, (("x", "y"), None, None, (), 1, "c"))
        self.check([("only", ("a", "b")), ("rekey", "c"), ("only", ("a", "b"))], None)

    def test_later_makes_no_difference(self):
        self.check([("later", 5)], ALL)
        self.check([("later", 5), ("sift", ">", 2), ("later", 0)], (None, 3, None, (), 1, None))

    def test_nothing_stays_nothing(self):
        for stage in (("sift", "!=", 3), ("only", ("a",)), ("rekey", "a"), ("scale", 2), ("later", 1)):
            self.assertIsNone(narrowed(None, stage))
        self.check(sifts("> 3", "< 3") + [("rekey", "a"), ("scale", 0)], None)

    def test_numbers_of_many_digits(self):
        stages = [("scale", -MANY_DIGITS), ("sift", "<", 5 * MANY_DIGITS), ("sift", "!=", -MANY_DIGITS)]
        self.check(stages, (None, -4, None, (1,), -MANY_DIGITS, None))

    def test_drawn_stages(self):
        nothing = 0
        holes = 0
        for drawing in drawings(4000, 900):
            stages = drawing.stages(6)
            show = ALL
            for at, stage in enumerate(stages):
                show = called(self, narrowed, show, stage)
                self.assertEqual(show, show_by_counting(stages[:at + 1]), stages)
            nothing += show is None
            holes += show is not None and show[3] != ()
        self.assertTrue(nothing > 300 and holes > 150, (nothing, holes))

    def test_drawn_sifts(self):
        # Many sifts at few values: bounds fall on holes, and one hole on the other.
        for drawing in drawings(2500, 950):
            stages = []
            for _ in range(6):
                comparison = drawing.pick("!=", "!=", "!=", "<", "<=", ">", ">=")
                stages.append(("sift", comparison, drawing.random.randint(-3, 3)))
            if drawing.pick(True, False):
                stages[drawing.random.randrange(6)] = ("scale", drawing.pick(-1, -2, 2))
            self.assertEqual(show_of(stages), show_by_counting(stages), stages)

    def test_the_kinds_of_its_parts(self):
        show = show_of([("only", ("a", "b")), ("sift", "!=", 3), ("sift", ">", 0), ("rekey", "k")])
        self.assertEqual([type(part) for part in show], [tuple, int, type(None), tuple, int, str])

    def test_drawn_values_are_shown_just_if_they_pass(self):
        for drawing in drawings(500, 970):
            stages = drawing.stages(5)
            show = show_of(stages)
            if show is not None:
                key = "a" if show[0] is None else show[0][0]
                for value in range(-12, 13):
                    passes = row_behind_all(stages, (0, key, value)) is not None
                    self.assertIs(called(self, is_shown, show, value), passes, (stages, value))


class Shown(unittest.TestCase):
    def test_all(self):
        changes = [((0, "a", 1), -2), ((1, "b", 0), 1)]
        self.assertEqual(called(self, shown, ALL, changes), changes)
        self.assertEqual(called(self, shown, ALL, []), [])

    def test_nothing(self):
        self.assertEqual(called(self, shown, None, [((0, "a", 1), 1)]), [])

    def test_keys_values_and_their_edges(self):
        changes = [((0, key, value), value) for key in ("a", "aa", "b") for value in range(1, 7)]
        found = called(self, shown, (("a", "b"), 2, 5, (4,), -3, None), changes)
        expected = [((0, key, -3 * value), value) for key in ("a", "b") for value in (5, 3, 2)]
        self.assertEqual(found, expected)

    def test_rows_that_become_equal_are_added(self):
        changes = [((0, "a", 1), 2), ((0, "b", 1), 3), ((0, "b", 7), 1), ((1, "a", 1), 1), ((1, "b", 1), -1)]
        self.assertEqual(
            called(self, shown, (None, None, None, (), 1, "k"), changes), [((0, "k", 1), 5), ((0, "k", 7), 1)]
        )
        self.assertEqual(
            called(self, shown, (None, None, None, (7,), 0, None), changes),
            [((0, "a", 0), 2), ((0, "b", 0), 3), ((1, "a", 0), 1), ((1, "b", 0), -1)],
        )

    def test_times_stay(self):
        changes = [((-5, "a", 1), 1), ((3, "a", 1), 1)]
        self.assertEqual(called(self, shown, show_of([("later", 7)]), changes), changes)

    def test_drawn_changes(self):
        full = 0
        for drawing in drawings(3000, 1000):
            stages = drawing.stages(5)
            changes = drawing.pick(drawing.changes, drawing.bag)(10)
            show = show_of(stages)
            found = called(self, shown, show, changes)
            check_form(self, found)
            self.assertEqual(found, shown_by_counting(stages, changes), stages)
            full += found != []
        self.assertGreater(full, 1000)


class Shows(unittest.TestCase):
    def check(self, text, *expected):
        self.assertEqual(called(self, shows, parse_plan(text)), list(expected))

    def test_plans_without_operators_that_keep(self):
        self.check("a")
        self.check("a | scale 2 | rekey k")
        self.check("both(a, both(b | later 3, a))")

    def test_each_operator_that_keeps(self):
        for text in ("a | once", "less(a, b)", "a | windows 5 5 sum", "a | sittings 5 sum",
                     "near 1 1 sum(a, b)", "without(a, b)"):
            self.check(text, ALL)
            self.check(f"({text}) | scale 2", (None, None, None, (), 2, None))

    def test_stages_below_an_operator_are_not_its_own(self):
        self.check("a | scale 2 | once", ALL)
        self.check("a | once | scale 2 | once | scale 3", (None, None, None, (), 2, None),
                   (None, None, None, (), 3, None))

    def test_the_lowest_stage_is_applied_first(self):
        self.check("a | once | scale 2 | sift > 3 | rekey k | rekey l", (None, 2, None, (), 2, "l"))
        self.check("a | once | sift > 3 | scale 2", (None, 4, None, (), 2, None))
        self.check("a | once | rekey k | only k", (None, None, None, (), 1, "k"))
        self.check("a | once | only k | rekey l", (("k",), None, None, (), 1, "l"))
        self.check("a | once | rekey k | only l", None)

    def test_both_passes_on(self):
        self.check("both(a | once | scale 2, b | once | rekey k) | scale 3 | rekey l",
                   (None, None, None, (), 6, "l"), (None, None, None, (), 3, "l"))
        self.check("both(both(a, b | once), less(a, b)) | scale 5",
                   (None, None, None, (), 5, None), (None, None, None, (), 5, None))

    def test_other_operators_do_not(self):
        for text in ("less({0}, {1})", "without({0}, {1})", "near 1 1 sum({0}, {1})"):
            text = text.format("a | once | scale 2", "b | once | rekey k") + " | scale 3"
            self.check(text, (None, None, None, (), 2, None), (None, None, None, (), 1, "k"),
                       (None, None, None, (), 3, None))
        for text in ("once", "windows 5 5 sum", "sittings 5 sum"):
            self.check(f"a | once | scale 2 | {text} | scale 3", (None, None, None, (), 2, None),
                       (None, None, None, (), 3, None))

    def test_the_order_of_operators(self):
        text = "less(a | once | scale 2 | windows 5 5 sum | scale 3, without(a | once | scale 5, b) | scale 7)"
        self.check(text + " | scale 11", *[(None, None, None, (), factor, None) for factor in (2, 3, 5, 7, 11)])

    def test_equal_operators_that_stand_twice(self):
        self.check("both(a | once, a | once)", ALL, ALL)

    def test_drawn_plans(self):
        many = 0
        for drawing in drawings(2500, 1100):
            plan = drawing.plan(drawing.random.randint(1, 16), drawing.random.randint(4, 10))
            expected = [show_by_counting(stages) for _, stages in operators_with_stages(plan)]
            self.assertEqual(called(self, shows, plan), expected, plan)
            many += len(expected) > 2
        self.assertGreater(many, 800)


if __name__ == "__main__":
    unittest.main()
