"""The names in a text's tree: at each place where a tree has one, and what is none."""

import re
import unittest

from tests.helper import KEYWORDS, coded, names_of
from twigtext.calls import names

# Each place at which a tree has a name, in a program whose other names are a and b: there stands Q.
PLACES = """
module Q
module a use Q
module a use b use Q use a
module a let Q = 1
module a let Q: whole = 1
module a record Q {}
module a record a {Q: whole}
module a record a {b: whole, Q: whole}
module a account Q EUR
module a fn Q() {}
module a fn b[Q]() {}
module a fn b[a, Q]() {}
module a fn b(Q: whole) {}
module a fn b(a: whole, Q: whole) {}
module a fn b(a: Q) {}
module a fn b() -> Q {}
module a let b: Q = 1
module a let b: Q.a = 1
module a let b: a.Q = 1
module a let b: list of Q = 1
module a let b: fibre of Q = 1
module a let b: fn(Q) = 1
module a let b: fn(whole, Q) = 1
module a let b: fn() -> Q = 1
module a record a {b: Q}
module a let b = Q
module a let b = make Q()
module a let b = make Q(a: 1)
module a let b = make Q.a()
module a let b = make a.Q()
module a let b = make a(Q: 1)
module a let b = make a(b: 1, Q: 1)
module a let b = make a(b: Q)
module a let b = Q()
module a let b = a(Q)
module a let b = a(1, Q)
module a let b = Q[1]
module a let b = a[Q]
module a let b = Q.a
module a let b = a.Q
module a let b = 1.Q
module a let b = (Q)
module a let b = [Q]
module a let b = [1, Q]
module a let b = [Q .. 1]
module a let b = [1 .. Q]
module a let b = -Q
module a let b = not Q
module a let b = spawn Q
module a let b = resume Q
module a let b = resume a giving Q
module a let b = picture "x" of Q
module a let b = if Q then 1 else 1
module a let b = if 1 then Q else 1
module a let b = if 1 then 1 else Q
module a let b = Q as whole
module a let b = 1 as Q
module a let b = 1 as a.Q
module a let b = Q + 1
module a let b = 1 ^ Q
module a fn b() { let Q = 1 }
module a fn b() { let a: Q = 1 }
module a fn b() { let a = Q }
module a fn b() { Q = 1 }
module a fn b() { a = Q }
module a fn b() { Q.a = 1 }
module a fn b() { a.Q = 1 }
module a fn b() { a[Q] = 1 }
module a fn b() { Q() }
module a fn b() { a.Q() }
module a fn b() { a(Q) }
module a fn b() { flags = Q }
module a fn b() { if Q {} }
module a fn b() { if 1 {} else if Q {} }
module a fn b() { if 1 { Q() } }
module a fn b() { if 1 {} else { Q() } }
module a fn b() { while Q {} }
module a fn b() { while 1 { Q() } }
module a fn b() { for Q in 1 {} }
module a fn b() { for a in Q {} }
module a fn b() { for a in 1 to Q {} }
module a fn b() { for a in 1 { Q() } }
module a fn b() { match Q {} }
module a fn b() { match 1 { is Q a {} } }
module a fn b() { match 1 { is whole Q {} } }
module a fn b() { match 1 { is whole a { Q() } } }
module a fn b() { match 1 { else { Q() } } }
module a fn b() { return Q }
module a fn b() { with precision 5 { Q() } }
module a fn b() { try { Q() } finally {} }
module a fn b() { try {} catch Q {} }
module a fn b() { try {} catch a { Q() } }
module a fn b() { try {} finally { Q() } }
module a fn b() { raise Q }
module a fn b() { say Q }
module a fn b() { say 1, Q }
module a fn b() { yield Q }
module a fn b() { yield 1 into Q }
module a fn b() { post Q: 1 from 1 }
module a fn b() { post 1: Q from 1 }
module a fn b() { post 1: 1 from Q }
"""


class Names(unittest.TestCase):
    def test_each_place(self):
        for row in PLACES.strip().split("\n"):
            others = re.findall(r"\b[ab]\b", row)
            for name in ("q", "a0", "a_", "a", "b", "zz9", "q" * 31):
                self.assertEqual(names_of(row.replace("Q", name)), sorted(set(others + [name])), row)

    def test_the_answer(self):
        self.assertEqual(names(coded("module a")), [0, 1, 1, 97])
        self.assertEqual(names(coded("module ab use b")), [0, 2, 2, 97, 98, 1, 98])
        self.assertEqual(names(coded("module b let a = c_1")), [0, 3, 1, 97, 1, 98, 3, 99, 95, 49])

    def test_the_documents_example(self):
        self.assertEqual(names_of("module a fn f(x:whole)->whole{return -x^2}"), ["a", "f", "x"])
        self.assertEqual(names_of("module a let b = (1 - (2 - 3)) < 4"), ["a", "b"])

    def test_a_name_more_than_once_is_told_once(self):
        self.assertEqual(names_of("module a use a let a: a.a = make a.a(a: a.a(a)[a])"), ["a"])
        self.assertEqual(names_of("module b use a use b use a let b = a"), ["a", "b"])

    def test_they_rise_byte_by_byte(self):
        """Digits go before _, and _ before small letters."""
        self.assertEqual(names_of("module b use ab use a_ use a9 use a0"), ["a0", "a9", "a_", "ab", "b"])
        self.assertEqual(names_of("module z use y use aaaa use b"), ["aaaa", "b", "y", "z"])
        self.assertEqual(names_of("module c use b_ use b use b0c use b0"), ["b", "b0", "b0c", "b_", "c"])

    def test_one_that_another_begins_with_goes_first(self):
        self.assertEqual(names_of("module abc use ab use abcd use a use b"), ["a", "ab", "abc", "abcd", "b"])
        row = ["n" * size for size in range(1, 32)]
        self.assertEqual(names_of("module n use " + " use ".join(reversed(row))), row)
        self.assertEqual(names_of("module a use a0 use a00 use a_ use a0_"), ["a", "a0", "a00", "a0_", "a_"])

    def test_names_that_are_longer_than_keywords(self):
        self.assertEqual(names_of("module lets use iff use fn_ use no use whole1"), ["fn_", "iff", "lets", "no", "whole1"])

    def test_codes_numbers_and_texts_are_no_names(self):
        self.assertEqual(names_of("module a account b EUR"), ["a", "b"])
        self.assertEqual(names_of("module a let b = EUR + A1 + 12m + 1e5d + 007p"), ["a", "b"])
        self.assertEqual(names_of('module a let b = "c" + picture "d" of "e"'), ["a", "b"])
        self.assertEqual(names_of('module a fn b() { post 1: 1 from 1 "c" }'), ["a", "b"])
        self.assertEqual(names_of("module a let b: packed 5m = 1 as decimal 2h near"), ["a", "b"])
        self.assertEqual(names_of("module a fn b() { with precision 5d, trap zero {} }"), ["a", "b"])

    def test_a_name_that_a_text_or_a_comment_has_too(self):
        self.assertEqual(names_of('module a let b = "a" # b c'), ["a", "b"])
        self.assertEqual(names_of('module a # c\nlet b = d + "c"'), ["a", "b", "d"])

    def test_keywords_are_no_names(self):
        for word in KEYWORDS:
            self.assertNotIn(word, names_of(
                "module a fn f(b: whole) -> text { if b { leave } else { with trap zero { say only(small) } } }"))
            self.assertEqual(names(coded(f"module {word}")), [-2, 2, 7])

    def test_many_names(self):
        row = sorted(f"n{number}" for number in range(7000))
        self.assertEqual(names_of("module n0 " + " ".join("use " + name for name in row[:6000])), row[:6000])
