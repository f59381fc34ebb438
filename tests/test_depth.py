"""Depth: each way that the document names, at a depth of 100 and of 101."""

import unittest

from tests.helper import CALLS_OF_TREES, coded
from twigtext.calls import read, tokens

RISING_SIGNS = "- + * / // % ^ == != < <= > >= -> .".split()
RISING_WORDS = "not or and as of then spawn resume giving picture".split()
CLEARING_SIGNS = ", = :".split()
CLEARING_WORDS = """
let fn record account use return raise say yield post from match is while for in to with try catch
""".split()
KEPT = """
if else module a AB 1 "x" .. break both clear cut down error false finally flags flush into leave list make only
packed precision rounding text trap true up value whole zero
""".split()


class Depth(unittest.TestCase):
    def is_deep(self, row):
        self.assertEqual(tokens(coded(" ".join(row)))[0], 0, "a depth of 100: " + " ".join(row))

    def is_too_deep(self, row):
        self.assertEqual(tokens(coded(" ".join(row))), [-6], "a depth of 101: " + " ".join(row))

    def has_depth(self, row, depth):
        """By brackets put ahead: each makes the depth of what's behind it one more."""
        self.is_deep(["("] * (100 - depth) + row)
        self.is_too_deep(["("] * (101 - depth) + row)

    def test_opening_signs(self):
        for sign in ("(", "[", "{"):
            with self.subTest(sign):
                self.has_depth([sign], 1)
                self.has_depth([sign] * 100, 100)
                self.is_too_deep([sign] * 101)

    def test_rising_signs_and_keywords(self):
        for look in RISING_SIGNS + RISING_WORDS:
            with self.subTest(look):
                self.has_depth([look] * 7, 7)
                self.is_deep([look] * 100)
                self.is_too_deep([look] * 101)

    def test_clearing_signs_and_keywords(self):
        for look in CLEARING_SIGNS + CLEARING_WORDS:
            with self.subTest(look):
                self.has_depth(["+", "+", look, "+", "+"], 2)
                self.is_deep((["+"] * 100 + [look]) * 2)
                self.is_too_deep(["+"] * 99 + [look] + ["+"] * 101)
                self.has_depth(["+", "+", "(", "+", look, "+"], 4)
                self.has_depth(["+", "+", look, "+", "+", look, look, "+", "+", "+"], 3)
                self.has_depth(["+", "(", "+", look, "+", ")", "+"], 3)

    def test_other_tokens_keep_the_numbers(self):
        for look in KEPT:
            with self.subTest(look):
                self.has_depth(["+", look, "+", look], 2)
                self.has_depth([look], 0)
                self.is_deep([look] * 500)

    def test_closing_makes_the_next_one_more(self):
        for opening, closing in (("(", ")"), ("[", "]")):
            with self.subTest(closing):
                self.has_depth([opening, "+", "+", closing], 3)
                self.has_depth([opening, closing, "+"], 2)
                self.has_depth([opening, closing] * 5, 5)
                self.is_deep([opening, closing] * 100)
                self.is_too_deep([opening, closing] * 101)
                self.has_depth(["{", "+", "+", opening, "+", "+", "+", closing, "+"], 7)

    def test_a_closing_brace_makes_the_next_0(self):
        self.has_depth(["+", "+", "+", "{", "}", "+"], 4)
        self.is_deep(["{", "}"] * 500)
        self.is_deep(["+"] * 99 + ["{", "}"] + ["+"] * 100)
        self.is_too_deep(["+"] * 99 + ["{", "}"] + ["+"] * 101)

    def test_any_closing_sign_takes_any_number_away(self):
        self.is_deep(["{", ")"] * 100)
        self.is_too_deep(["{", ")"] * 101)
        self.is_deep(["(", "}"] * 500)

    def test_closing_signs_with_nothing_behind(self):
        self.is_deep([")"] + ["+"] * 99)
        self.is_too_deep([")"] + ["+"] * 100)
        self.is_deep(["]"] * 500 + ["+"] * 99)
        self.is_too_deep(["]"] * 500 + ["+"] * 100)
        self.is_deep(["+"] * 100 + ["}"] + ["+"] * 100)
        self.is_too_deep(["}"] + ["+"] * 101)
        self.is_deep(["+"] * 100 + [")"] + ["+"] * 99)
        self.is_too_deep(["+"] * 100 + [")"] + ["+"] * 100)

    def test_numbers_and_how_many_count_together(self):
        self.has_depth(["+", "(", "+", "[", "+", "{", "+"], 7)
        self.is_deep(["+", "("] * 50)
        self.is_too_deep(["+", "("] * 50 + ["+"])

    def test_the_greatest_counts_not_the_last(self):
        self.is_too_deep(["("] * 101 + [")"] * 101)
        self.is_too_deep(["+"] * 101 + [",", "a"])

    def test_what_is_no_token_does_not_count(self):
        self.assertEqual(tokens(coded('# ' + "(" * 200 + '\n"' + "(" * 200 + '"')), [0, 1, 4, 203, 405])

    def test_only_tokens_ahead_of_a_fault_count(self):
        self.assertEqual(tokens(coded("(" * 100 + "!" + "(" * 100)), [-2, 1, 100])
        self.assertEqual(tokens(coded("(" * 101 + "!")), [-6])
        self.assertEqual(read(coded("(" * 100 + "!" + "(" * 100)), [-2, 2, 0])
        self.assertEqual(read(coded("(" * 101 + "!")), [-6])

    def test_tokens_behind_one_that_no_program_has_there_count(self):
        self.assertEqual(read(coded("module if " + "(" * 100)), [-2, 2, 7])
        self.assertEqual(read(coded("module if " + "(" * 101)), [-6])


class DepthOfPrograms(unittest.TestCase):
    """Programs that come to 100 are read; one step more is refused."""

    def is_the_last(self, form, depth_of_form=0):
        most = 100 - depth_of_form
        for call in CALLS_OF_TREES:
            self.assertEqual(call(coded(form(most)))[0], 0)
            self.assertEqual(call(coded(form(most + 1))), [-6])

    def test_parentheses(self):
        self.is_the_last(lambda n: "module a let b = " + "(" * n + "1" + ")" * n)

    def test_lists(self):
        self.is_the_last(lambda n: "module a let b = " + "[" * n + "]" * n)

    def test_calls(self):
        self.is_the_last(lambda n: "module a let b = " + "f(" * n + ")" * n)
        self.is_the_last(lambda n: "module a let b = f" + "()" * n)

    def test_signs(self):
        for sign in "+ - * / // % ^".split():
            with self.subTest(sign):
                self.is_the_last(lambda n: "module a let b = 1" + f" {sign} 1" * n)
        self.is_the_last(lambda n: "module a let b = " + "-" * n + "1")
        self.is_the_last(lambda n: "module a let b = c" + ".d" * n)

    def test_comparisons(self):
        for sign in "== != < <= > >=".split():
            with self.subTest(sign):
                self.is_the_last(lambda n: "module a let b = " + "-" * n + f"1 {sign} 2", 1)

    def test_words(self):
        self.is_the_last(lambda n: "module a let b = " + "not " * n + "1")
        self.is_the_last(lambda n: "module a let b = 1" + " or 1" * n)
        self.is_the_last(lambda n: "module a let b = 1" + " and 1" * n)
        self.is_the_last(lambda n: "module a let b = 1" + " as whole" * n)
        self.is_the_last(lambda n: "module a let b: " + "list of " * n + "whole = 1")
        self.is_the_last(lambda n: "module a let b: " + "fibre of " * n + "whole = 1")
        self.is_the_last(lambda n: "module a let b = " + "if c then " * n + "1" + " else 1" * n)
        self.is_the_last(lambda n: "module a let b = " + "-" * n + "spawn c", 1)
        self.is_the_last(lambda n: "module a let b = " + "-" * n + "resume c giving d", 2)
        self.is_the_last(lambda n: "module a let b = " + "-" * n + 'picture "c" of d', 2)
        self.is_the_last(lambda n: "module a fn f() -> " + "list of " * n + "whole {}", 3)

    def test_blocks(self):
        self.is_the_last(lambda n: "module a fn f() {" + "while c {" * n + "}" * n + "}", 2)
