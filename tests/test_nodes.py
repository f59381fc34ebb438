"""How many nodes a text's tree has: of each kind by hand."""

import unittest

from tests.helper import nodes_of


class Nodes(unittest.TestCase):
    def has_nodes(self, before, after, forms):
        """The numbers are those of the forms alone: one for the program and one for its declaration go off."""
        for words, number in forms:
            with self.subTest(words):
                self.assertEqual(nodes_of(before + words + after), 2 + number)

    def test_programs(self):
        self.assertEqual(nodes_of("module a"), 1)
        self.assertEqual(nodes_of("module a use b use c"), 1)
        self.assertEqual(nodes_of("module a let b = 1 let c = 2"), 5)

    def test_declarations(self):
        self.has_nodes("module a ", "", (
            ("let b = 1", 1), ("let b: whole = 1", 2), ("record b {}", 0), ("record b {c: whole, d: list of e}", 3),
            ("account b EUR", 0), ("fn f() {}", 0), ("fn f[t, u]() {}", 0), ("fn f(b: t, c: whole) -> text {}", 3),
        ))

    def test_sorts(self):
        self.has_nodes("module a record b {c: ", "}", (
            ("whole", 1), ("value", 1), ("packed 5", 1), ("list of text", 2), ("fibre", 1), ("fibre of fibre", 2),
            ("fn()", 1), ("fn(whole, text)", 3), ("fn(whole) -> list of b", 4), ("b", 1), ("b.c", 1),
        ))

    def test_expressions(self):
        self.has_nodes("module a let b = ", "", (
            ("1", 1), ('"x"', 1), ("true", 1), ("false", 1), ("flags", 1), ("c", 1), ("EUR", 1), ("only()", 1),
            ("only(zero, small)", 1), ("[]", 1), ("[1, c, d]", 4), ("[1 .. 2]", 3), ("make r()", 1),
            ("make m.r(x: 1, y: 2)", 3), ("c()", 2), ("c(1, 2)", 4), ("c[1]", 3), ("c.d", 2), ("-1", 2), ("not c", 2),
            ("spawn c", 2), ("resume c", 2), ("resume c giving d", 3), ('picture "x" of c', 2),
            ("if c then d else e", 4), ("c as whole", 3), ("c as decimal 2 near", 3), ("c as list of d 1", 4),
            ("((c))", 1), ("(1 - (2 - 3)) < 4", 7),
        ))
        self.has_nodes("module a let b = ", "", [
            (f"c {sign} d", 3) for sign in "or and == != < <= > >= + - * / // % ^".split()
        ])

    def test_statements(self):
        self.has_nodes("module a fn f() {", "}", (
            ("", 0), ("let b = 1", 2), ("let b: whole = 1", 3), ("b = 1", 3), ("b.c[1] = 2", 6), ("b()", 3),
            ("b.c(1)(2)", 7), ("flags = 1", 2), ("if b {}", 2), ("if b {leave} else {leave}", 4),
            ("if b {} else if c {leave} else {}", 4), ("while b {leave}", 3), ("for b in c {leave}", 3),
            ("for b in 1 to 2 {}", 3), ("match b {}", 2), ("match b {is whole c {leave} is d e {} else {leave}}", 6),
            ("return 1", 2), ("leave", 1), ("break", 1), ("next", 1), ("leave leave leave", 3),
            ("with rounding up, precision 5, trap zero small, flush in {leave}", 2),
            ("try {leave} catch e {leave} finally {leave}", 4), ("raise b", 2), ("say b, 1", 3), ("yield b", 2),
            ("yield b into c", 2), ("post b: c from d", 4), ('post b: c from d "x"', 4),
        ))

    def test_bytes_that_are_like_kinds_are_no_nodes(self):
        """Names, texts and counts hold bytes that kinds have too."""
        self.assertEqual(nodes_of('module a let b = "` abc ( ) !"'), 3)
        self.assertEqual(nodes_of("module a let " + "b" * 31 + " = " + "1" * 32), 3)
        self.assertEqual(nodes_of("module a let b = [" + "1, " * 0x20 + "1]"), 3 + 0x21)

    def test_what_is_blank_or_needless_is_no_node(self):
        self.assertEqual(nodes_of("#x\nmodule a;let b = (((1)))+((2)) # y"), 5)
