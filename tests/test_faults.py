"""Faults of texts, their places and their order (points 13 and 15)."""

import unittest
from random import Random

from grammar import QUOTED, first_fault
from plan_maker import joined, loose_words, plan_of
from tidefold.errors import PlanError
from tidefold.parsing import parse_plan
from tidefold.tokens import tokens

# For each number of a plan: a text with N in its place, its least and its greatest value.
NUMBERS = (
    ("a | sift < N", -1000000000, 1000000000),
    ("a | sift != N | once", -1000000000, 1000000000),
    ("a | scale N", -1000, 1000),
    ("a | later N", 0, 1000),
    ("a | windows N 1000 count", 1, 1000),
    ("a | windows 1 N count", 1, 1000),
    ("a | sittings N least", 0, 1000),
    ("near N 0 sum(a, b)", 0, 1000),
    ("near 0 N sum(a, b)", 0, 1000),
    ("both(a, near 0 N sum(a, b) | once)", 0, 1000),
)
PARTS = (
    "a b abcdefgh abcdefghi abcdefghijk 0 1 -1 1000 1001 -0 007 5000000000".split()
    + "< <= = != >= > ( ) , |".split()
    + QUOTED
)


class Faults(unittest.TestCase):
    def check(self, text, message, place):
        with self.assertRaises(PlanError) as caught:
            parse_plan(text)
        found = (caught.exception.message, caught.exception.place)
        self.assertEqual(found, (message, place), text)
        self.assertEqual(str(caught.exception), f"{message} at {place}")

    def refused(self, text, place):
        self.check(text, "unexpected token", place)

    def ended(self, text):
        self.check(text, "unexpected end", len(text))

    def out_of_range(self, text, place):
        self.check(text, "number out of range", place)


class UnexpectedTokens(Faults):
    def test_where_a_plan_begins(self):
        for word in (")", ",", "|", "<", "=", "!=", "5", "-5", "once", "sift", "sum", "left"):
            self.refused(word, 0)
            self.refused(f"  {word} a", 2)
            self.refused(f"({word}", 1)
            self.refused(f"both(a,{word}", 7)

    def test_behind_a_plan(self):
        for word in (")", ",", "(", "b", "5", "<", "once", "both", "left"):
            self.refused(f"a {word}", 2)
            self.refused(f"a | once {word}", 9)
            self.refused(f"(a) {word}", 4)
            self.refused(f"both(a, b) {word} a", 11)

    def test_behind_a_bar(self):
        for word in ("a", "|", "(", ")", "5", "both", "near", "count", "left", "<"):
            self.refused(f"a | {word}", 4)

    def test_words_of_the_grammar_are_no_names(self):
        for word in QUOTED:
            if word.isalpha():
                self.refused(f"a | only {word}", 9)
                self.refused(f"a | only x {word}", 11)
                self.refused(f"a | rekey {word}", 10)
                self.refused(f"a {word}", 2)
                if word not in ("both", "less", "without", "near"):
                    self.refused(word, 0)
                    self.refused(f"both({word}, a)", 5)

    def test_words_that_only_begin_like_those_of_the_grammar_are_names(self):
        for word in ("on", "onc", "oncea", "le", "lefts", "nearb", "sums", "bot", "differen"):
            self.assertEqual(parse_plan(word), ("source", word))

    def test_words_of_more_than_8_letters_are_no_names(self):
        self.assertEqual(parse_plan("abcdefgh | only hgfedcba | rekey hgfedcba")[0], "stage")
        self.refused("abcdefghi", 0)
        self.refused("a | only x abcdefghi", 11)
        self.refused("a | rekey abcdefghi", 10)
        self.refused("less(a, abcdefghijklm)", 8)

    def test_numbers_words_and_signs_at_the_place_of_another(self):
        self.refused("a | sift 3", 9)
        self.refused("a | sift < x", 11)
        self.refused("a | sift < = 3", 11)
        self.refused("a | sift , 3", 9)
        self.refused("a | only 3", 9)
        self.refused("a | only x, y", 10)
        self.refused("a | rekey x y", 12)
        self.refused("a | rekey 3", 10)
        self.refused("a | scale x", 10)
        self.refused("a | scale 1 2", 12)
        self.refused("a | later < 1", 10)
        self.refused("a | windows 5 count", 14)
        self.refused("a | windows 5 5 5", 16)
        self.refused("a | windows 5 5 left", 16)
        self.refused("a | windows 5 5 difference", 16)
        self.refused("a | sittings count", 13)
        self.refused("a | sittings 5 right", 15)
        self.refused("a | sittings 5 5 sum", 15)
        self.refused("near 1 left(a, b)", 7)
        self.refused("near 1 2 (a, b)", 9)
        self.refused("near 1 2 count(a, b)", 9)
        self.refused("near 1 2 least(a, b)", 9)
        self.refused("near 1 2 left a", 14)
        self.refused("both a", 5)
        self.refused("both 1(a, b)", 5)
        self.refused("less(a)", 6)
        self.refused("less(a, b, a)", 9)
        self.refused("less(a b)", 7)
        self.refused("less(, b)", 5)
        self.refused("()", 1)
        self.refused("(a, b)", 2)
        self.refused("((a)))", 5)

    def test_whatever_the_numbers(self):
        self.refused("a | scale 5000 5", 15)
        self.refused("a | windows 0 0 sum once", 20)

    def test_however_long_the_text(self):
        self.refused("a" + " | once" * 60 + " a", 422)


class UnexpectedEnds(Faults):
    def test_texts_without_tokens(self):
        for text in ("", " ", "\n\n", "   \n "):
            self.ended(text)

    def test_every_beginning_that_is_no_plan(self):
        for text in (
            "a |",
            "a | sift",
            "a | sift <",
            "a | only",
            "a | rekey",
            "a | scale",
            "a | later",
            "a | windows",
            "a | windows 5",
            "a | windows 5 5",
            "a | sittings",
            "a | sittings 5",
            "(",
            "(a",
            "((a)",
            "both",
            "both(",
            "both(a",
            "both(a,",
            "both(a, b",
            "both(a, b | only x",
            "near",
            "near 1",
            "near 1 2",
            "near 1 2 sum",
            "less(a, (b | once)",
        ):
            self.ended(text)
            self.ended(text + " ")
            self.ended("\n" + text + "\n \n")


class Ranges(Faults):
    def test_both_ends_and_one_beyond(self):
        for text, low, high in NUMBERS:
            place = text.index("N")
            for number in (low, high, (low + high) // 2):
                self.assertIsInstance(parse_plan(text.replace("N", str(number))), tuple)
                if number >= 0:
                    self.assertIsInstance(parse_plan(text.replace("N", f"00{number}")), tuple)
            for number in (low - 1, high + 1, 10 * high, -10 * high):
                self.out_of_range(text.replace("N", str(number)), place)
            self.out_of_range(text.replace("N", f"00{high + 1}"), place)

    def test_minus_zero(self):
        for text, low, _ in NUMBERS:
            if low == 1:
                self.out_of_range(text.replace("N", "-0"), text.index("N"))
                self.out_of_range(text.replace("N", "000"), text.index("N"))
            else:
                self.assertIsInstance(parse_plan(text.replace("N", "-0")), tuple)

    def test_a_size_of_10_slides_and_one_more(self):
        for slide in (1, 7, 99, 100):
            self.assertIsInstance(parse_plan(f"a | windows {10 * slide} {slide} sum"), tuple)
        for slide in (1, 7, 99):
            self.out_of_range(f"a | windows {10 * slide + 1} {slide} sum", 12)
            self.out_of_range(f"a | windows 1000 {slide} sum", 12)
        self.assertIsInstance(parse_plan("a | windows 1 1000 sum"), tuple)

    def test_sizes_and_slides_that_are_both_wrong(self):
        self.out_of_range("a | windows 1001 1 sum", 12)
        self.out_of_range("a | windows 1001 0 sum", 12)
        self.out_of_range("a | windows 0 0 sum", 12)
        self.out_of_range("a | windows -5 1001 sum", 12)
        self.out_of_range("a | windows 20 0 sum", 15)
        self.out_of_range("a | windows 20 -1 sum", 15)
        self.out_of_range("a | windows 20 1001 sum", 15)

    def test_the_first_from_the_left(self):
        self.out_of_range("a | scale 1001 | later 1001", 10)
        self.out_of_range("a | scale 1000 | later 1001 | scale 1001", 23)
        self.out_of_range("near 0 1001 sum(a | later -1, b)", 7)
        self.out_of_range("near 0 1000 sum(a | later -1, b | later -1)", 26)
        self.out_of_range("a | windows 11 1 sum | scale 1001", 12)
        self.out_of_range("a | scale 1001 | windows 11 1 sum", 10)
        self.out_of_range("both(a | windows 10 1 sum, a | windows 11 1 sum)", 39)


class Extents(Faults):
    def pairs(self, stages):
        """Return a text with 15 tuples and 4 levels, and one more of both for each stage."""
        two = "both(a, b)"
        four = f"both({two}, {two})"
        eight = f"both({four}, {four})"
        return eight + " | scale 1" * stages

    def test_20_and_21_operators(self):
        self.assertIsInstance(parse_plan(self.pairs(5)), tuple)
        self.check(self.pairs(6), "too many operators", 0)
        self.check("\n  " + self.pairs(6), "too many operators", 3)
        self.check("(" + self.pairs(6) + ")", "too many operators", 0)

    def test_each_kind_of_tuple_counts_once(self):
        for stage in (
            "once",
            "sift < 1",
            "only x y z",
            "rekey k",
            "scale 2",
            "later 2",
            "windows 5 5 sum",
            "sittings 5 sum",
        ):
            self.assertIsInstance(parse_plan(self.pairs(4) + " | " + stage), tuple)
            self.check(self.pairs(5) + " | " + stage, "too many operators", 0)
        for pair in ("both", "less", "without", "near 1 1 sum"):
            self.assertIsInstance(parse_plan(f"{pair}({self.pairs(3)}, a)"), tuple)
            self.check(f"{pair}({self.pairs(4)}, a)", "too many operators", 0)

    def test_10_and_11_levels(self):
        self.assertIsInstance(parse_plan("a" + " | once" * 9), tuple)
        self.check("a" + " | once" * 10, "too high", 0)
        self.check(" \n(a" + " | scale 2" * 10 + ")", "too high", 2)
        self.assertIsInstance(parse_plan("less(a, b" + " | once" * 8 + ")"), tuple)
        self.check("less(a, b" + " | once" * 9 + ")", "too high", 0)
        self.check("less(a" + " | once" * 9 + ", b)", "too high", 0)
        self.check("both(a, b)" + " | once" * 9, "too high", 0)
        self.assertIsInstance(parse_plan("both(a, b)" + " | once" * 8), tuple)

    def test_parentheses_are_no_levels(self):
        self.assertIsInstance(parse_plan("(" * 20 + "a" + " | once)" * 9 + ")" * 11), tuple)


class Order(Faults):
    def test_an_unknown_character_comes_first(self):
        self.check("a | later 1001 a $", "unknown character", 17)

    def test_an_unexpected_token_comes_before_numbers(self):
        self.refused("a | later 1001 | scale 1001 a", 28)
        self.refused("a | later 1001)", 14)

    def test_an_unexpected_end_comes_before_numbers(self):
        self.ended("(a | later 1001")
        self.ended("a | later 1001 | windows 0 0")

    def test_numbers_come_before_operators_and_levels(self):
        text = "a" + " | once" * 30 + " | later 1001"
        self.out_of_range(text, len(text) - 4)
        text = "a" + " | once" * 10 + " | windows 11 1 sum"
        self.out_of_range(text, len(text) - 8)

    def test_operators_come_before_levels(self):
        self.assertIsInstance(parse_plan("a" + " | once" * 9), tuple)
        self.check("a" + " | once" * 19, "too high", 0)
        self.check("a" + " | once" * 20, "too many operators", 0)

    def test_an_unexpected_token_comes_before_operators(self):
        self.refused("a" + " | once" * 20 + ")", 141)
        self.ended("(a" + " | once" * 20)


class ByTheGrammar(Faults):
    """Compares with what the grammar itself says of texts in which something is changed."""

    def check_by_grammar(self, words, text):
        places = [token[2] for token in tokens(text)] + [len(text)]
        fault = first_fault(words)
        if fault is None:
            try:
                self.assertIsInstance(parse_plan(text), tuple)
            except PlanError as error:
                self.assertNotIn(error.message, ("unexpected token", "unexpected end"))
        elif fault == len(words):
            self.ended(text)
        else:
            self.refused(text, places[fault])

    def test_changed_texts(self):
        random = Random(15)
        for _ in range(1000):
            plan = plan_of(random, random.randint(1, 8), random.randint(1, 5))
            words = loose_words(random, plan)
            self.assertIsNone(first_fault(words))
            for _ in range(random.randint(1, 2)):
                at = random.randrange(len(words) + 1)
                words[at:at + random.randint(0, 1)] = random.choices(PARTS, k=random.randint(0, 1))
            self.check_by_grammar(words, joined(random, words))

    def test_each_part_behind_each_beginning(self):
        random = Random(16)
        text = "near 1 2 left ( a | sift < 3 | once , ( b | only x y ) | rekey x | windows 5 5 sum ) | scale 4"
        words = text.split() + "| later 5 | sittings 3 least".split()
        for at in range(len(words) + 1):
            for part in PARTS:
                changed = words[:at] + [part]
                self.check_by_grammar(changed, joined(random, changed))
            self.check_by_grammar(words[:at], joined(random, words[:at]))


if __name__ == "__main__":
    unittest.main()
