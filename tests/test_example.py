"""Every sentence of the document's example."""

import unittest

from tests.helper import (
    CALLS_OF_TREES, GREATEST, coded, declaration_of, greatest_node, number, short, tokens_of, tree_of,
    written_declaration,
)
from twigtext.calls import at, kinds, names, nodes, read, same, tokens, write

EXAMPLE = "module a fn f(x:whole)->whole{return -x^2}"

TREE = """
90 01 61 00 00 00 00 01 00 00 00 83 01 66 00 00 00 00 01 00 00 00 01 78 01 01 01 01 00 00 00 68 2E 4E 25 01 78 20 01 32
"""

WRITTEN = """\
module a

fn f(x: whole) -> whole {
  return -x ^ 2
}
"""

FAULTS = (
    ("module if", 2, 7),
    ("module", 3, 6),
    ("module a let b = 01", 1, 17),
    ('module a let b = "x', 3, 19),
    ("module a fn f() { x }", 2, 20),
    ("module a fn f() { f() = 1 }", 2, 22),
    ("", 3, 0),
    ("module a let b = 1 < 2 < 3", 2, 23),
    ("module a let b = !1", 1, 17),
)


class Example(unittest.TestCase):
    def test_the_18_tokens(self):
        self.assertEqual(len(tokens_of(EXAMPLE)), 18)
        self.assertEqual(
            [EXAMPLE[start:end] for kind, start, end in tokens_of(EXAMPLE)],
            ["module", "a", "fn", "f", "(", "x", ":", "whole", ")", "->", "whole", "{", "return", "-", "x", "^",
             "2", "}"],
        )
        self.assertEqual(
            [kind for kind, start, end in tokens_of(EXAMPLE)],
            [0, 1, 0, 1, 5, 1, 5, 0, 5, 5, 0, 5, 0, 5, 1, 5, 3, 5],
        )

    def test_the_tree_of_40_bytes(self):
        tree = [int(byte, 16) for byte in TREE.split()]
        self.assertEqual(len(tree), 40)
        self.assertEqual(read(coded(EXAMPLE)), [0, 40] + tree)

    def test_its_text(self):
        self.assertEqual(write(coded(EXAMPLE)), [0, len(WRITTEN)] + coded(WRITTEN))
        self.assertEqual(write(coded(WRITTEN)), [0, len(WRITTEN)] + coded(WRITTEN))
        self.assertEqual(tree_of(WRITTEN), tree_of(EXAMPLE))

    def test_the_9_nodes(self):
        self.assertEqual(nodes(coded(EXAMPLE)), [0, 9])
        self.assertEqual(nodes(coded(WRITTEN)), [0, 9])

    def test_node_6(self):
        self.assertEqual(at(6, coded(EXAMPLE)), [0, 78, 38, 41, 3])

    def test_each_node(self):
        found = (
            (0x90, EXAMPLE, 9), (0x83, "fn f(x:whole)->whole{return -x^2}", 8), (0x01, "whole)", 1),
            (0x01, "whole{", 1), (0x68, "return -x^2", 5), (0x2E, "-x^2", 4), (0x4E, "x^2", 3), (0x25, "x^", 1),
            (0x20, "2", 1),
        )
        for k, (kind, words, number) in enumerate(found):
            start = EXAMPLE.index(words)
            end = start + len(words.rstrip("){^"))
            self.assertEqual(at(k, coded(EXAMPLE)), [0, kind, start, end, number], words)

    def test_there_is_no_node_9(self):
        for k in (9, 10, 42, GREATEST):
            self.assertEqual(at(k, coded(EXAMPLE)), [-4])

    def test_its_kinds(self):
        found = [0x01, 2, 0x20, 1, 0x25, 1, 0x2E, 1, 0x4E, 1, 0x68, 1, 0x83, 1, 0x90, 1]
        self.assertEqual(kinds(coded(EXAMPLE)), [0, 8] + found)
        self.assertEqual(kinds(coded(WRITTEN)), [0, 8] + found)

    def test_its_names(self):
        self.assertEqual(names(coded(EXAMPLE)), [0, 3, 1, 97, 1, 102, 1, 120])
        self.assertEqual(names(coded(WRITTEN)), [0, 3, 1, 97, 1, 102, 1, 120])

    def test_it_and_its_text_have_one_tree(self):
        self.assertEqual(same(coded(EXAMPLE), coded(WRITTEN)), [0, 1])
        self.assertEqual(same(coded(WRITTEN), coded(EXAMPLE)), [0, 1])
        self.assertEqual(same(coded(EXAMPLE), coded(EXAMPLE.replace("2", "3"))), [0, 0])

    def test_faults_of_two_texts(self):
        """That of the first is told, of the second if the first is right."""
        for words, rule, place in FAULTS:
            self.assertEqual(same(coded(words), coded(EXAMPLE)), [-2, rule, place])
            self.assertEqual(same(coded(EXAMPLE), coded(words)), [-2, rule, place])
            for others, other_rule, other_place in FAULTS:
                self.assertEqual(same(coded(words), coded(others)), [-2, rule, place])

    def test_needless_parentheses_leave_none(self):
        inner = [0x49] + number("2") + number("3")
        value = [0x44, 0x49] + number("1") + inner + number("4")
        self.assertEqual(declaration_of("let b = (1 - (2 - 3)) < 4"), [0x80] + short("b") + [0] + value)
        self.assertEqual(declaration_of("let b = 1 - (2 - 3) < 4"), [0x80] + short("b") + [0] + value)
        self.assertEqual(written_declaration("let b = (1 - (2 - 3)) < 4"), "let b = 1 - (2 - 3) < 4")

    def test_each_fault(self):
        for words, rule, place in FAULTS:
            for call in CALLS_OF_TREES + (greatest_node,):
                with self.subTest(words, call=call):
                    self.assertEqual(call(coded(words)), [-2, rule, place])

    def test_of_these_faults_tokens_tells_those_of_tokens_alone(self):
        of_tokens = (FAULTS[2], FAULTS[3], FAULTS[8])
        for words, rule, place in FAULTS:
            with self.subTest(words):
                answer = tokens(coded(words))
                if (words, rule, place) in of_tokens:
                    self.assertEqual(answer, [-2, rule, place])
                else:
                    self.assertEqual(answer[0], 0)

    def test_the_empty_text_has_no_tokens(self):
        self.assertEqual(tokens([]), [0, 0])
