"""Plans are read (points 12, 13 and 14)."""

import unittest
from random import Random

from plan_maker import joined, loose_words, plan_of
from tidefold.parsing import parse_plan

A = ("source", "a")
B = ("source", "b")


class Plans(unittest.TestCase):
    def check(self, text, plan):
        self.assertEqual(parse_plan(text), plan)

    def test_the_examples_of_the_document(self):
        self.check("a | sift > 0 | once", ("once", ("stage", ("sift", ">", 0), A)))
        plan = ("less", A, ("stage", ("only", ("x", "y")), B))
        self.check("less(a, b | only y x) | windows 10 5 sum", ("windows", 10, 5, "sum", plan))
        self.check("a | sittings 30 count", ("sittings", 30, "count", A))

    def test_a_source(self):
        self.check("a", A)
        self.check("abcdefgh", ("source", "abcdefgh"))
        self.check("x", ("source", "x"))

    def test_every_comparison(self):
        for sign in ("<", "<=", "=", "!=", ">=", ">"):
            self.check(f"a | sift {sign} 3", ("stage", ("sift", sign, 3), A))
            self.check(f"a|sift{sign}-3", ("stage", ("sift", sign, -3), A))

    def test_every_other_stage(self):
        self.check("a | rekey k", ("stage", ("rekey", "k"), A))
        self.check("a | scale -2", ("stage", ("scale", -2), A))
        self.check("a | later 2", ("stage", ("later", 2), A))
        self.check("a | only k", ("stage", ("only", ("k",)), A))
        self.check("a | once", ("once", A))

    def test_every_aggregate(self):
        for aggregate in ("count", "sum", "least", "greatest"):
            self.check(f"a | windows 7 3 {aggregate}", ("windows", 7, 3, aggregate, A))
            self.check(f"a | sittings 7 {aggregate}", ("sittings", 7, aggregate, A))

    def test_every_pair(self):
        for word in ("both", "less", "without"):
            self.check(f"{word}(a, b)", (word, A, B))
            self.check(f"{word}(b, a)", (word, B, A))
        for combination in ("left", "right", "sum", "difference"):
            self.check(f"near 3 4 {combination}(a, b)", ("near", 3, 4, combination, A, B))

    def test_each_stage_takes_the_plan_to_the_left(self):
        plan = ("stage", ("scale", 3), ("stage", ("scale", 2), ("both", ("once", A), B)))
        self.check("both(a | once, b) | scale 2 | scale 3", plan)

    def test_pairs_within_pairs(self):
        plan = ("both", ("less", A, B), ("without", B, ("near", 1, 2, "sum", A, A)))
        self.check("both(less(a,b),without(b,near 1 2 sum(a,a)))", plan)

    def test_the_keys_of_only(self):
        plan = ("stage", ("only", ("a", "aa", "b", "z")), A)
        self.check("a | only a aa b z", plan)
        self.check("a | only z b aa a", plan)
        self.check("a | only b z a aa b a z z", plan)
        self.check("a | only a a", ("stage", ("only", ("a",)), A))

    def test_keys_end_where_the_plan_ends(self):
        plan = ("both", ("stage", ("only", ("x", "y")), A), ("once", ("stage", ("only", ("z",)), B)))
        self.check("both(a | only y x, (b | only z) | once)", plan)

    def test_parentheses(self):
        self.check("(a)", A)
        self.check("((a))", A)
        self.check("(a) | once", ("once", A))
        self.check("(a | once)", ("once", A))
        self.check("((a | once) | once)", ("once", ("once", A)))
        self.check("both((a), ((b | once)))", ("both", A, ("once", B)))
        self.check("(both(a, b)) | once", ("once", ("both", A, B)))
        self.check("(" * 149 + "a" + ")" * 149, A)
        self.check("(" * 200 + "a | once" + ")" * 200, ("once", A))

    def test_numbers_with_leading_zeros(self):
        self.check("a | later 0007", ("stage", ("later", 7), A))
        self.check("a | scale -0007", ("stage", ("scale", -7), A))
        self.check("a | windows 0001000 00500 sum", ("windows", 1000, 500, "sum", A))

    def test_minus_zero_is_zero(self):
        self.check("a | later -0", ("stage", ("later", 0), A))
        self.check("a | scale -00", ("stage", ("scale", 0), A))
        self.check("a | sittings -0 sum", ("sittings", 0, "sum", A))
        self.check("near -0 -0 left(a, b)", ("near", 0, 0, "left", A, B))
        self.check("a | sift = -0", ("stage", ("sift", "=", 0), A))

    def test_blanks_that_are_not_needed(self):
        plan = ("stage", ("sift", "<=", 3), ("near", 0, 5, "left", A, ("stage", ("only", ("x",)), B)))
        self.check("near 0 5left(a,b|only x)|sift<=3", plan)
        self.check("near0 5left(a,b|only x)|sift<=003", plan)
        self.check("\n near\n0\n5\nleft\n(\na\n,\nb\n|\nonly\nx\n)\n|\nsift\n<=\n3 \n", plan)

    def test_the_plan_is_of_tuples(self):
        plan = parse_plan("a | only x | windows 5 5 count")
        self.assertIs(type(plan), tuple)
        self.assertIs(type(plan[4]), tuple)
        self.assertIs(type(plan[4][1]), tuple)
        self.assertIs(type(plan[4][1][1]), tuple)

    def test_many_plans_loosely_written(self):
        random = Random(13)
        for _ in range(1500):
            plan = plan_of(random, random.randint(1, 20), random.randint(1, 10))
            text = joined(random, loose_words(random, plan))
            self.assertEqual(parse_plan(text), plan, text)


if __name__ == "__main__":
    unittest.main()
