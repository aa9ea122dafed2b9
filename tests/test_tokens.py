"""Tokens (point 14) and unknown characters (points 14 and 15)."""

import unittest
from random import Random

from plan_maker import BLANKS, joined, needs_blank
from tidefold.errors import PlanError
from tidefold.parsing import parse_plan
from tidefold.tokens import tokens

SIGNS = ("<=", ">=", "!=", "(", ")", ",", "|", "<", ">", "=")
WORDS = ("a", "z", "abcdefghijklmnopqrstuvwxyz", "once", "difference")
NUMBERS = ("0", "7", "007", "-0", "-00", "-7", "-070", "123456789012345678901234567890")


def one_token(written):
    """Return the kind and the value that a token is written for."""
    if written in SIGNS:
        return ("sign", written)
    if written[-1].isdigit():
        return ("number", int(written))
    return ("word", written)


class Tokens(unittest.TestCase):
    def test_the_example_of_the_interface(self):
        expected = [
            ("word", "a", 0),
            ("sign", "|", 1),
            ("word", "sift", 2),
            ("sign", ">=", 6),
            ("number", -7, 8),
        ]
        self.assertEqual(tokens("a|sift>=-07"), expected)

    def test_a_text_without_tokens(self):
        for text in ("", " ", "\n", " \n \n"):
            self.assertEqual(tokens(text), [])

    def test_each_token_alone(self):
        for written in SIGNS + WORDS + NUMBERS:
            for before in BLANKS:
                for behind in BLANKS:
                    found = tokens(before + written + behind)
                    self.assertEqual(found, [one_token(written) + (len(before),)])

    def test_each_letter_and_digit(self):
        for letter in "abcdefghijklmnopqrstuvwxyz":
            self.assertEqual(tokens(letter), [("word", letter, 0)])
        for digit in "0123456789":
            self.assertEqual(tokens(digit), [("number", int(digit), 0)])

    def test_each_two_tokens_with_nothing_between_where_nothing_is_needed(self):
        for first in SIGNS + WORDS + NUMBERS:
            for second in SIGNS + WORDS + NUMBERS:
                between = " " if needs_blank(first, second) else ""
                expected = [
                    one_token(first) + (0,),
                    one_token(second) + (len(first + between),),
                ]
                self.assertEqual(tokens(first + between + second), expected)

    def test_signs_that_begin_alike(self):
        text = "<==>=!=<>==<!==="
        expected = [
            ("sign", "<=", 0),
            ("sign", "=", 2),
            ("sign", ">=", 3),
            ("sign", "!=", 5),
            ("sign", "<", 7),
            ("sign", ">=", 8),
            ("sign", "=", 10),
            ("sign", "<", 11),
            ("sign", "!=", 12),
            ("sign", "=", 14),
            ("sign", "=", 15),
        ]
        self.assertEqual(tokens(text), expected)
        self.assertEqual(tokens("< ="), [("sign", "<", 0), ("sign", "=", 2)])
        self.assertEqual(tokens(">\n="), [("sign", ">", 0), ("sign", "=", 2)])

    def test_a_word_ends_where_a_number_begins(self):
        expected = [
            ("word", "ab", 0),
            ("number", 12, 2),
            ("word", "c", 4),
            ("number", -3, 5),
            ("number", -4, 7),
            ("number", 5, 10),
        ]
        self.assertEqual(tokens("ab12c-3-4 5"), expected)

    def test_each_letter_behind_a_number(self):
        for letter in "abcdefghijklmnopqrstuvwxyz":
            expected = [("number", -5, 0), ("word", letter, 2), ("number", 5, 3)]
            self.assertEqual(tokens(f"-5{letter}5"), expected)

    def test_a_word_may_have_more_than_8_letters(self):
        self.assertEqual(tokens("abcdefghi"), [("word", "abcdefghi", 0)])

    def test_values_of_numbers(self):
        for text, value in (("-0", 0), ("-00", 0), ("000", 0), ("0010", 10), ("-0010", -10)):
            self.assertEqual(tokens(text), [("number", value, 0)])
            self.assertIs(type(tokens(text)[0][2]), int)

    def test_many_texts(self):
        random = Random(14)
        for _ in range(500):
            words = random.choices(SIGNS + WORDS + NUMBERS, k=random.randint(0, 12))
            found = tokens(joined(random, words))
            self.assertEqual([token[:2] for token in found], [one_token(word) for word in words])

    def test_places_in_many_texts(self):
        random = Random(15)
        for _ in range(500):
            words = random.choices(SIGNS + WORDS + NUMBERS, k=random.randint(1, 12))
            text = joined(random, words)
            places = [token[2] for token in tokens(text)]
            self.assertEqual(places, sorted(places))
            for word, place in zip(words, places, strict=True):
                self.assertTrue(text.startswith(word, place))

    def test_kinds_and_values_are_plain(self):
        found = tokens("a 1 (")
        self.assertIsInstance(found, list)
        for token in found:
            self.assertIsInstance(token, tuple)
        self.assertEqual([type(token[1]) for token in found], [str, int, str])

    def test_the_list_is_new(self):
        first = tokens("a | once")
        first.clear()
        self.assertEqual(len(tokens("a | once")), 3)


class UnknownCharacters(unittest.TestCase):
    def check(self, text, place):
        for function in (tokens, parse_plan):
            with self.assertRaises(PlanError) as caught:
                function(text)
            self.assertEqual(caught.exception.place, place, text)
            self.assertEqual(caught.exception.message, "unknown character")
            self.assertEqual(str(caught.exception), f"unknown character at {place}")

    def test_every_character_of_no_token(self):
        known = "abcdefghijklmnopqrstuvwxyz0123456789 ()|,<>="
        for code in range(32, 127):
            character = chr(code)
            if character in known:
                self.assertIsInstance(tokens(character), list)
            else:
                self.check(character, 0)
                self.check("a " + character, 2)

    def test_capital_letters_within_words(self):
        self.check("aB", 1)
        self.check("Ab", 0)

    def test_a_minus_without_a_digit_directly_behind_it(self):
        self.check("-", 0)
        self.check("a | scale - 2", 10)
        self.check("a | scale -\n2", 10)
        self.check("a | scale --2", 10)
        self.check("a | scale -a", 10)
        self.check("a | scale 2-", 11)
        self.check("a-b", 1)
        self.check("a | sift <-", 10)

    def test_an_exclamation_mark_without_an_equals_sign(self):
        self.check("!", 0)
        self.check("a | sift ! = 3", 9)
        self.check("a | sift !!= 3", 9)
        self.check("a | sift !< 3", 9)
        self.check("a | sift != 3!", 13)

    def test_the_first_of_several(self):
        self.check("a ? b !", 2)
        self.check("a ! b ?", 2)
        self.check("a - ?", 2)

    def test_it_comes_before_every_other_error(self):
        self.check(") ?", 2)
        self.check("a a a ?", 6)
        self.check("less(a, ?", 8)
        self.check("a | later 1001 ?", 15)
        self.check("a" + " | once" * 30 + ".", 211)


if __name__ == "__main__":
    unittest.main()
