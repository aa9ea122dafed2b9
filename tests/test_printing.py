"""Plans are printed (point 16), and their sources are named (point 12)."""

import unittest
from random import Random

from plan_maker import joined, loose_words, plan_of
from tidefold.parsing import parse_plan
from tidefold.printing import print_plan, sources

A = ("source", "a")
B = ("source", "b")


def sources_within(plan):
    """Return the names of all sources of a plan, from left to right."""
    if plan[0] == "source":
        return [plan[1]]
    found = []
    for part in plan[1:]:
        if isinstance(part, tuple) and part[0] not in ("sift", "only", "rekey", "scale", "later"):
            found += sources_within(part)
    return found


class CanonicalTexts(unittest.TestCase):
    def check(self, plan, text):
        self.assertEqual(print_plan(plan), text)
        self.assertEqual(parse_plan(text), plan)

    def test_the_example_of_the_interface(self):
        plan = ("near", 0, 5, "left", A, ("stage", ("scale", -2), B))
        self.check(plan, "near 0 5 left(a, b | scale -2)")

    def test_a_source(self):
        self.check(A, "a")
        self.check(("source", "abcdefgh"), "abcdefgh")

    def test_every_stage(self):
        for sign in ("<", "<=", "=", "!=", ">=", ">"):
            self.check(("stage", ("sift", sign, -7), A), f"a | sift {sign} -7")
        self.check(("stage", ("only", ("x",)), A), "a | only x")
        self.check(("stage", ("only", ("x", "xy", "z")), A), "a | only x xy z")
        self.check(("stage", ("rekey", "k"), A), "a | rekey k")
        self.check(("stage", ("scale", 0), A), "a | scale 0")
        self.check(("stage", ("later", 1000), A), "a | later 1000")

    def test_every_operator_with_one_input(self):
        self.check(("once", A), "a | once")
        for aggregate in ("count", "sum", "least", "greatest"):
            self.check(("windows", 10, 5, aggregate, A), f"a | windows 10 5 {aggregate}")
            self.check(("sittings", 30, aggregate, A), f"a | sittings 30 {aggregate}")

    def test_every_pair(self):
        for word in ("both", "less", "without"):
            self.check((word, A, B), f"{word}(a, b)")
        for combination in ("left", "right", "sum", "difference"):
            self.check(("near", 1, 2, combination, A, B), f"near 1 2 {combination}(a, b)")

    def test_no_parentheses_but_those_of_pairs(self):
        plan = ("once", ("both", ("less", ("once", A), B), ("stage", ("scale", 2), ("without", B, A))))
        self.check(plan, "both(less(a | once, b), without(b, a) | scale 2) | once")

    def test_stages_stand_in_the_order_in_which_they_apply(self):
        plan = ("stage", ("scale", 3), ("once", ("stage", ("later", 2), A)))
        self.check(plan, "a | later 2 | once | scale 3")

    def test_a_loosely_written_text(self):
        plan = parse_plan("(( near -0 005\nleft((a),b|only y x y|scale -002 ) ) |once )")
        self.check(plan, "near 0 5 left(a, b | only x y | scale -2) | once")

    def test_20_operators_and_10_levels(self):
        text = "less(a" + " | once" * 8 + ", both(b, c" + " | scale 2" * 7 + "))"
        self.assertEqual(print_plan(parse_plan(text)), text)

    def test_somewhat_more_operators_and_levels(self):
        plan = A
        for factor in range(100):
            plan = ("less", ("stage", ("scale", factor), plan), B)
        text = "less(" * 100 + "a"
        for factor in range(100):
            text += f" | scale {factor}, b)"
        self.assertEqual(print_plan(plan), text)

    def test_many_plans(self):
        random = Random(16)
        for _ in range(1500):
            plan = plan_of(random, random.randint(1, 20), random.randint(1, 10))
            text = print_plan(plan)
            self.assertEqual(parse_plan(text), plan)
            self.assertEqual(text, text.strip())
            for wrong in ("  ", "\n", "( ", " (", " )", " ,", ",("):
                self.assertNotIn(wrong, text)
            loose = joined(random, loose_words(random, plan))
            self.assertEqual(print_plan(parse_plan(loose)), text)


class Sources(unittest.TestCase):
    def test_one_source(self):
        self.assertEqual(sources(A), ["a"])
        self.assertEqual(sources(("once", ("stage", ("only", ("x", "y")), B))), ["b"])

    def test_they_ascend(self):
        plan = parse_plan("both(both(c, ab), both(b, a))")
        self.assertEqual(sources(plan), ["a", "ab", "b", "c"])

    def test_each_stands_once(self):
        plan = parse_plan("near 1 2 sum(b | once, less(a, b) | windows 5 5 count)")
        self.assertEqual(sources(plan), ["a", "b"])

    def test_keys_are_no_sources(self):
        self.assertEqual(sources(parse_plan("a | only x y | rekey z")), ["a"])

    def test_many_plans(self):
        random = Random(12)
        for _ in range(500):
            plan = plan_of(random, random.randint(1, 20), random.randint(1, 10))
            self.assertEqual(sources(plan), sorted(set(sources_within(plan))))

    def test_the_list_is_new(self):
        plan = ("both", A, B)
        sources(plan).clear()
        self.assertEqual(sources(plan), ["a", "b"])
        self.assertIs(type(sources(plan)), list)


if __name__ == "__main__":
    unittest.main()
