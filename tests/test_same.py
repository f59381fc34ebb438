"""Whether two texts have one tree, and in which order two texts are refused."""

import unittest

from tests.helper import are_same, coded, tree_of
from twigtext.calls import same

# In each row texts of one tree.
ALIKE = (
    ("module a", "module  a", "module\na", ";module;a;", "#c\nmodule#d\na# e", "\n\nmodule a\n\n"),
    ("module a let b = 1", "module a let b=1", "module a;let b = 1;", "module a let b = (1)", "module a let b = (((1)))"),
    ("module a let b = 1 - 2 - 3", "module a let b = (1 - 2) - 3", "module a let b = ((1)-(2))-(3)"),
    ("module a let b = 2 ^ 3 ^ 4", "module a let b = 2 ^ (3 ^ 4)"),
    ("module a let b = -c ^ 2", "module a let b = -(c ^ 2)", "module a let b = (-(c)^(2))"),
    ("module a let b = c or d and e", "module a let b = c or (d and e)"),
    ("module a let b = not c == d", "module a let b = not (c == d)"),
    ("module a let b = c as whole as text", "module a let b = (c as whole) as text"),
    ("module a let b = if c then d else e", "module a let b = (if (c) then (d) else (e))"),
    ("module a let b = c(d)[e].f", "module a let b = ((c)((d))[(e)]).f", "module a let b = (((c)(d))[e]).f"),
    ("module a let b = [c, d]", "module a let b = [(c), (d)]", "module a let b = ([c,d])"),
    ("module a let b = [c .. d]", "module a let b = ([(c)..(d)])"),
    ("module a let b = spawn c()", "module a let b = spawn (c)()", "module a let b = spawn (c())"),
    ("module a let b = only(zero, small)", "module a let b = only(small, zero)", "module a let b = only(zero,small,zero)"),
    ("module a fn f() { with trap zero small {} }", "module a fn f(){with trap small zero small{}}"),
    ("module a fn f() { b = 1; c() }", "module a fn f() { b = 1 c() }", "module a fn f(){b=(1)\nc()}"),
    ("module a fn f() { return -x }", "module a fn f() { return # c\n - # d\n x }"),
)

# Pairs whose trees differ, by what differs in them.
APART = (
    ("module a", "module b"),
    ("module a", "module ab"),
    ("module a", "module a use a"),
    ("module a use b", "module a use c"),
    ("module a use b use c", "module a use c use b"),
    ("module a let b = 1", "module a let c = 1"),
    ("module a let b = 1", "module a fn b() {}"),
    ("module a let b = 1", "module a let b: whole = 1"),
    ("module a let b: whole = 1", "module a let b: fraction = 1"),
    ("module a let b: c = 1", "module a let b: c.c = 1"),
    ("module a let b: packed 1 = 1", "module a let b: packed 2 = 1"),
    ("module a let b: fibre = 1", "module a let b: fibre of whole = 1"),
    ("module a let b: list of c = 1", "module a let b: list of d = 1"),
    ("module a let b: fn() = 1", "module a let b: fn() -> whole = 1"),
    ("module a let b: fn() = 1", "module a let b: fn(whole) = 1"),
    ("module a let b: fn(whole) = 1", "module a let b: fn() -> whole = 1"),
    ("module a let b = 1", "module a let b = 2"),
    ("module a let b = 1.0", "module a let b = 1.00"),
    ("module a let b = 1", "module a let b = 1.0"),
    ("module a let b = 1p", "module a let b = 01p"),
    ("module a let b = 1m", "module a let b = 1d"),
    ("module a let b = 1e5d", "module a let b = 1e-5d"),
    ("module a let b = 1", 'module a let b = "1"'),
    ('module a let b = "x"', 'module a let b = "y"'),
    ('module a let b = "x"', 'module a let b = "x "'),
    ('module a let b = ""', 'module a let b = "\\n"'),
    ('module a let b = "n"', 'module a let b = "\\n"'),
    ('module a let b = "\\\\n"', 'module a let b = "\\n"'),
    ('module a let b = "#c"', 'module a let b = "#d"'),
    ('module a let b = "(1)"', 'module a let b = "1"'),
    ("module a let b = true", "module a let b = false"),
    ("module a let b = EUR", "module a let b = USD"),
    ("module a let b = c", "module a let b = CC"),
    ("module a let b = only()", "module a let b = only(zero)"),
    ("module a let b = only(zero)", "module a let b = only(small)"),
    ("module a let b = []", "module a let b = [1]"),
    ("module a let b = [1, 2]", "module a let b = [1 .. 2]"),
    ("module a let b = [1, 2]", "module a let b = [2, 1]"),
    ("module a let b = [1]", "module a let b = 1"),
    ("module a let b = make c()", "module a let b = make d()"),
    ("module a let b = make c()", "module a let b = make c.c()"),
    ("module a let b = make c(d: 1)", "module a let b = make c(e: 1)"),
    ("module a let b = c(1)", "module a let b = c[1]"),
    ("module a let b = c(1)", "module a let b = c(1, 1)"),
    ("module a let b = c.d", "module a let b = c.e"),
    ("module a let b = -c", "module a let b = not c"),
    ("module a let b = c", "module a let b = - - c"),
    ("module a let b = spawn c", "module a let b = resume c"),
    ("module a let b = resume c", "module a let b = resume c giving c"),
    ('module a let b = picture "x" of c', 'module a let b = picture "y" of c'),
    ("module a let b = if c then d else e", "module a let b = if c then e else d"),
    ("module a let b = c as whole", "module a let b = c as whole near"),
    ("module a let b = c as whole near", "module a let b = c as whole down"),
    ("module a let b = c as whole", "module a let b = c as whole 1"),
    ("module a let b = c as whole 1", "module a let b = c as whole 2"),
    ("module a let b = c + d", "module a let b = c - d"),
    ("module a let b = c < d", "module a let b = d > c"),
    ("module a let b = c / d", "module a let b = c // d"),
    ("module a let b = 1 - 2 - 3", "module a let b = 1 - (2 - 3)"),
    ("module a let b = 2 ^ 3 ^ 4", "module a let b = (2 ^ 3) ^ 4"),
    ("module a let b = -c ^ 2", "module a let b = (-c) ^ 2"),
    ("module a let b = not c == d", "module a let b = (not c) == d"),
    ("module a let b = spawn c()", "module a let b = (spawn c)()"),
    ("module a record b {}", "module a record b {c: whole}"),
    ("module a record b {c: whole}", "module a record b {d: whole}"),
    ("module a account b EUR", "module a account b USD"),
    ("module a account b EUR", "module a account c EUR"),
    ("module a fn f() {}", "module a fn f() { leave }"),
    ("module a fn f() {}", "module a fn f() -> whole {}"),
    ("module a fn f() {}", "module a fn f[t]() {}"),
    ("module a fn f() {}", "module a fn f(b: whole) {}"),
    ("module a fn f() { leave }", "module a fn f() { break }"),
    ("module a fn f() { leave break }", "module a fn f() { break leave }"),
    ("module a fn f() { b = 1 }", "module a fn f() { let b = 1 }"),
    ("module a fn f() { if b {} }", "module a fn f() { if b {} else {} }"),
    ("module a fn f() { if b {} if c {} }", "module a fn f() { if b {} else if c {} }"),
    ("module a fn f() { if b {} else if c {} }", "module a fn f() { if b {} else { if c {} } }"),
    ("module a fn f() { while b {} }", "module a fn f() { if b {} }"),
    ("module a fn f() { for b in c {} }", "module a fn f() { for b in c to c {} }"),
    ("module a fn f() { match b {} }", "module a fn f() { match b { else {} } }"),
    ("module a fn f() { match b { is whole c {} } }", "module a fn f() { match b { is whole d {} } }"),
    ("module a fn f() { with rounding up {} }", "module a fn f() { with rounding down {} }"),
    ("module a fn f() { with flush in {} }", "module a fn f() { with flush out {} }"),
    ("module a fn f() { with precision 1 {} }", "module a fn f() { with precision 2 {} }"),
    ("module a fn f() { with trap zero {} }", "module a fn f() { with trap stack {} }"),
    ("module a fn f() { with trap zero, trap small {} }", "module a fn f() { with trap zero small {} }"),
    ("module a fn f() { try {} finally {} }", "module a fn f() { try {} catch e {} }"),
    ("module a fn f() { try {} catch e {} }", "module a fn f() { try {} catch e {} finally {} }"),
    ("module a fn f() { say b }", "module a fn f() { say b, b }"),
    ("module a fn f() { yield b }", "module a fn f() { yield b into b }"),
    ("module a fn f() { post b: c from d }", "module a fn f() { post b: d from c }"),
    ("module a fn f() { post b: c from d }", 'module a fn f() { post b: c from d "" }'),
    ("module a fn f() {} fn g() {}", "module a fn g() {} fn f() {}"),
)

LONG = [32] * 65537
RIGHT = (coded("module a"), coded("module a let b = (1)"), coded("module a") + [32] * 65528)
TOO_LONG = (LONG, coded("module a") + LONG, coded("(" * 65537), coded("module if") + LONG, [0] * 66000)
TOO_DEEP = (coded("(" * 101), coded("module a let b = " + "-" * 101 + "1"), coded("} 1 " + "(" * 101 + " 01"))
FAULTY = (
    (coded("module if"), [-2, 2, 7]), (coded("module"), [-2, 3, 6]), (coded("module a let b = 01"), [-2, 1, 17]),
    (coded('module a let b = "x'), [-2, 3, 19]), ([], [-2, 3, 0]), ([0], [-2, 1, 0]), (coded("}"), [-2, 2, 0]),
)


class Same(unittest.TestCase):
    def test_texts_of_one_tree(self):
        for row in ALIKE:
            for words in row:
                for others in row:
                    self.assertTrue(are_same(words, others), (words, others))

    def test_texts_of_two_trees(self):
        for words, others in APART:
            self.assertFalse(are_same(words, others), (words, others))
            self.assertFalse(are_same(others, words), (words, others))
            self.assertTrue(are_same(words, words), words)
            self.assertTrue(are_same(others, others), others)

    def test_rows_of_one_tree_among_one_another(self):
        for at, row in enumerate(ALIKE):
            for behind in ALIKE[at + 1:]:
                self.assertFalse(are_same(row[0], behind[-1]), (row, behind))

    def test_one_byte_of_the_tree(self):
        """Pairs of trees that are as long as one another and differ in one byte alone."""
        pairs = [(tree_of(words), tree_of(others)) for words, others in APART]
        differing = [sum(byte != other for byte, other in zip(tree, others))
                     for tree, others in pairs if len(tree) == len(others)]
        self.assertGreater(differing.count(1), 30)

    def test_each_byte_of_a_name_and_a_text(self):
        word = "a" * 31
        held = "x" * 40
        text = f'module {word} let b = "{held}"'
        for place in range(1, 31):
            other = word[:place] + "b" + word[place + 1:]
            self.assertFalse(are_same(text, f'module {other} let b = "{held}"'))
        for place in range(40):
            other = held[:place] + "y" + held[place + 1:]
            self.assertFalse(are_same(text, f'module {word} let b = "{other}"'))

    def test_the_documents_example(self):
        self.assertTrue(are_same(
            "module a fn f(x:whole)->whole{return -x^2}",
            "module a\n\nfn f(x: whole) -> whole {\n  return -x ^ 2\n}\n"))
        self.assertTrue(are_same("module a let b = (1 - (2 - 3)) < 4", "module a let b = 1 - (2 - 3) < 4"))
        self.assertFalse(are_same("module a let b = (1 - (2 - 3)) < 4", "module a let b = 1 - 2 - 3 < 4"))

    def test_one_list_in_both_places(self):
        text = coded("module a let b = (1)")
        self.assertEqual(same(text, text), [0, 1])

    def test_long_texts(self):
        text = coded("module a let b = [" + "(1)," * 10000 + "1]")
        other = coded("module a let b = [" + "1, " * 10000 + "1]")
        self.assertEqual(same(text, other), [0, 1])
        self.assertEqual(same(text, other[:-2] + [50, 93]), [0, 0])


class Refusals(unittest.TestCase):
    def test_too_long_in_either_place_goes_first(self):
        for text in TOO_LONG:
            for other in RIGHT + TOO_LONG + TOO_DEEP + tuple(text for text, answer in FAULTY):
                self.assertEqual(same(text, other), [-1])
                self.assertEqual(same(other, text), [-1])

    def test_then_too_deep_in_either_place(self):
        for text in TOO_DEEP:
            for other in RIGHT + TOO_DEEP + tuple(text for text, answer in FAULTY):
                self.assertEqual(same(text, other), [-6])
                self.assertEqual(same(other, text), [-6])

    def test_then_a_fault_of_the_first(self):
        for text, answer in FAULTY:
            for other in RIGHT + tuple(text for text, answer in FAULTY):
                self.assertEqual(same(text, other), answer)

    def test_then_a_fault_of_the_second(self):
        for text, answer in FAULTY:
            for other in RIGHT:
                self.assertEqual(same(other, text), answer)
