"""Each form of the grammar, read as the bytes that the document gives it."""

import unittest

from tests.helper import (
    FLAGS, ROUNDINGS, block_of, count, counted, declaration_of, long, name, number, program, short, sort_of,
    statement_of, tree_of, value_of,
)

A = name("a")
B = name("b")
C = name("c")
D = name("d")
ONE = number("1")
TWO = number("2")
EMPTY = count(0)
LEAVE = [0x69]


class Programs(unittest.TestCase):
    def test_a_module_alone(self):
        self.assertEqual(tree_of("module a"), [0x90, 1, 97, 0, 0, 0, 0, 0, 0, 0, 0])
        self.assertEqual(tree_of(" #x\nmodule;\n;a_1 # y"), [0x90] + short("a_1") + count(0) + count(0))

    def test_uses(self):
        self.assertEqual(tree_of("module a use b"), [0x90] + short("a") + counted(short("b")) + count(0))
        self.assertEqual(
            tree_of("module a use b use cd use b let e = 1"),
            [0x90] + short("a") + counted(short("b"), short("cd"), short("b"))
            + counted([0x80] + short("e") + [0] + ONE),
        )

    def test_declarations_stand_in_order(self):
        self.assertEqual(
            tree_of("module a let b = 1 record c {} account d EUR fn f() {} let b = 2"),
            program(
                [0x80] + short("b") + [0] + ONE,
                [0x81] + short("c") + count(0),
                [0x82] + short("d") + short("EUR"),
                [0x83] + short("f") + count(0) + count(0) + [0] + EMPTY,
                [0x80] + short("b") + [0] + TWO,
            ),
        )

    def test_counts_of_more_than_a_byte(self):
        many = "module a" + " use b" * 300 + " let c = 1" * 515
        self.assertEqual(
            tree_of(many),
            [0x90] + short("a") + [44, 1, 0, 0] + short("b") * 300
            + [3, 2, 0, 0] + ([0x80] + short("c") + [0] + ONE) * 515,
        )


class Declarations(unittest.TestCase):
    def test_let(self):
        self.assertEqual(declaration_of("let b = 1"), [0x80] + short("b") + [0] + ONE)
        self.assertEqual(declaration_of("let b : whole = 1"), [0x80] + short("b") + [1, 0x01] + ONE)

    def test_record(self):
        self.assertEqual(declaration_of("record b {}"), [0x81] + short("b") + count(0))
        self.assertEqual(declaration_of("record b { c : text }"), [0x81] + short("b") + counted(short("c") + [0x0A]))
        self.assertEqual(
            declaration_of("record b{c:text,d:list of e}"),
            [0x81] + short("b") + counted(short("c") + [0x0A], short("d") + [0x10, 0x13] + short("e")),
        )

    def test_account(self):
        self.assertEqual(declaration_of("account b EUR2"), [0x82] + short("b") + short("EUR2"))

    def test_fn(self):
        self.assertEqual(
            declaration_of("fn g ( ) { }"), [0x83] + short("g") + count(0) + count(0) + [0] + EMPTY)
        self.assertEqual(
            declaration_of("fn g[t]() {}"), [0x83] + short("g") + counted(short("t")) + count(0) + [0] + EMPTY)
        self.assertEqual(
            declaration_of("fn g[t, u, v](b: t, c: whole, d: fn() -> u) -> m.v { leave leave }"),
            [0x83] + short("g") + counted(short("t"), short("u"), short("v"))
            + counted(
                short("b") + [0x13] + short("t"),
                short("c") + [0x01],
                short("d") + [0x12] + count(0) + [1, 0x13] + short("u"),
            )
            + [1, 0x14] + short("m") + short("v") + counted(LEAVE, LEAVE),
        )


class Sorts(unittest.TestCase):
    def test_words(self):
        words = "whole fraction decimal half single double extended interval truth text flags error account value"
        for kind, word in enumerate(words.split(), start=1):
            with self.subTest(word):
                self.assertEqual(sort_of(word), [kind])

    def test_packed(self):
        self.assertEqual(sort_of("packed 5"), [0x0F] + short("5"))
        self.assertEqual(sort_of("packed 1.5e3d"), [0x0F] + short("1.5e3d"))

    def test_list_and_fibre(self):
        self.assertEqual(sort_of("list of whole"), [0x10, 0x01])
        self.assertEqual(sort_of("list of list of b"), [0x10, 0x10, 0x13] + short("b"))
        self.assertEqual(sort_of("fibre"), [0x11, 0])
        self.assertEqual(sort_of("fibre of whole"), [0x11, 1, 0x01])
        self.assertEqual(sort_of("fibre of fibre"), [0x11, 1, 0x11, 0])
        self.assertEqual(sort_of("fibre of fibre of text"), [0x11, 1, 0x11, 1, 0x0A])
        self.assertEqual(sort_of("list of fibre of text"), [0x10, 0x11, 1, 0x0A])

    def test_fn(self):
        self.assertEqual(sort_of("fn()"), [0x12] + count(0) + [0])
        self.assertEqual(sort_of("fn() -> whole"), [0x12] + count(0) + [1, 0x01])
        self.assertEqual(sort_of("fn(whole)"), [0x12] + counted([0x01]) + [0])
        self.assertEqual(
            sort_of("fn(whole, fibre, fn(text) -> b) -> fn() -> c.d"),
            [0x12] + counted([0x01], [0x11, 0], [0x12] + counted([0x0A]) + [1, 0x13] + short("b"))
            + [1, 0x12] + count(0) + [1, 0x14] + short("c") + short("d"),
        )

    def test_names(self):
        self.assertEqual(sort_of("b"), [0x13] + short("b"))
        self.assertEqual(sort_of("b . cd"), [0x14] + short("b") + short("cd"))


class Firsts(unittest.TestCase):
    def test_numbers_stand_as_they_are_written(self):
        for words in ("0", "12", "1.50", "007p", "1e-5d", "0.0e7m", "9" * 255):
            with self.subTest(words):
                self.assertEqual(value_of(words), [0x20] + short(words))

    def test_texts(self):
        self.assertEqual(value_of('""'), [0x21] + long(""))
        self.assertEqual(value_of('"a b"'), [0x21] + long("a b"))
        self.assertEqual(value_of('"\\"\\\\\\n\\\\n"'), [0x21] + long('"\\\n\\n'))
        self.assertEqual(value_of('"' + "\\n" * 1024 + '"'), [0x21] + long("\n" * 1024))
        self.assertEqual(value_of('"' + "x" * 255 + '"')[1:3], [255, 0])
        self.assertEqual(value_of('"' + "x" * 256 + '"')[1:3], [0, 1])

    def test_words_names_codes(self):
        self.assertEqual(value_of("true"), [0x22])
        self.assertEqual(value_of("false"), [0x23])
        self.assertEqual(value_of("flags"), [0x24])
        self.assertEqual(value_of("n" * 31), [0x25] + short("n" * 31))
        self.assertEqual(value_of("EUR"), [0x26] + short("EUR"))

    def test_only(self):
        self.assertEqual(value_of("only()"), [0x27, 0])
        for bit, flag in enumerate(FLAGS):
            with self.subTest(flag):
                self.assertEqual(value_of(f"only({flag})"), [0x27, 1 << bit])
        self.assertEqual(value_of("only(" + ",".join(FLAGS) + ")"), [0x27, 127])
        self.assertEqual(value_of("only(stack, invalid)"), [0x27, 65])
        self.assertEqual(value_of("only(zero, zero, small, zero)"), [0x27, 6])

    def test_parentheses_leave_none(self):
        self.assertEqual(value_of("((1))"), ONE)
        self.assertEqual(value_of("(a)(b)"), [0x2B] + A + counted(B))

    def test_lists_and_intervals(self):
        self.assertEqual(value_of("[]"), [0x28] + count(0))
        self.assertEqual(value_of("[1]"), [0x28] + counted(ONE))
        self.assertEqual(value_of("[1, a, [2]]"), [0x28] + counted(ONE, A, [0x28] + counted(TWO)))
        self.assertEqual(value_of("[1 .. 2]"), [0x29] + ONE + TWO)
        self.assertEqual(value_of("[1..2]"), [0x29] + ONE + TWO)
        self.assertEqual(
            value_of("[if a then b else c .. d or a]"), [0x29, 0x33] + A + B + C + [0x40] + D + A)

    def test_make(self):
        self.assertEqual(value_of("make r()"), [0x2A, 0] + short("r") + count(0))
        self.assertEqual(value_of("make m.r()"), [0x2A, 1] + short("m") + short("r") + count(0))
        self.assertEqual(
            value_of("make m.r(x: 1, yy: make s(z: a))"),
            [0x2A, 1] + short("m") + short("r")
            + counted(short("x") + ONE, short("yy") + [0x2A, 0] + short("s") + counted(short("z") + A)),
        )


class Expressions(unittest.TestCase):
    def test_call_index_field(self):
        self.assertEqual(value_of("a()"), [0x2B] + A + count(0))
        self.assertEqual(value_of("a(1, b, 2)"), [0x2B] + A + counted(ONE, B, TWO))
        self.assertEqual(value_of("a[1]"), [0x2C] + A + ONE)
        self.assertEqual(value_of("a.b"), [0x2D] + A + short("b"))
        self.assertEqual(
            value_of("a.b[1](2).c"),
            [0x2D, 0x2B, 0x2C, 0x2D] + A + short("b") + ONE + counted(TWO) + short("c"),
        )
        self.assertEqual(value_of('"x"[1]'), [0x2C, 0x21] + long("x") + ONE)
        self.assertEqual(value_of("1 .b"), [0x2D] + ONE + short("b"))
        self.assertEqual(value_of("1.b"), [0x2D] + ONE + short("b"))
        self.assertEqual(value_of("[1][2]"), [0x2C, 0x28] + counted(ONE) + TWO)
        self.assertEqual(value_of("make r().b"), [0x2D, 0x2A, 0] + short("r") + count(0) + short("b"))
        self.assertEqual(value_of("only()()"), [0x2B, 0x27, 0] + count(0))

    def test_signed(self):
        self.assertEqual(value_of("-1"), [0x2E] + ONE)
        self.assertEqual(value_of("--1"), [0x2E, 0x2E] + ONE)
        self.assertEqual(value_of("spawn a(1)"), [0x30, 0x2B] + A + counted(ONE))
        self.assertEqual(value_of("resume a"), [0x31] + A + [0])
        self.assertEqual(value_of("resume a giving 1"), [0x31] + A + [1] + ONE)
        self.assertEqual(value_of("resume a.b giving -c ^ d"), [0x31, 0x2D] + A + short("b") + [1, 0x2E, 0x4E] + C + D)
        self.assertEqual(value_of('picture "9\\n" of a[1]'), [0x32] + long("9\n") + [0x2C] + A + ONE)

    def test_giving_belongs_to_the_innermost_resume(self):
        self.assertEqual(
            value_of("resume a giving resume b giving c"), [0x31] + A + [1, 0x31] + B + [1] + C)
        self.assertEqual(
            value_of("resume a giving (resume b) * c"), [0x4A, 0x31] + A + [1, 0x31] + B + [0] + C)

    def test_operators_between_two(self):
        signs = "or and == != < <= > >= + - * / // % ^".split()
        for kind, sign in enumerate(signs, start=0x40):
            with self.subTest(sign):
                self.assertEqual(value_of(f"a {sign} b"), [kind] + A + B)

    def test_the_left_ones_are_taken_together_first(self):
        for kind, sign in ((0x40, "or"), (0x41, "and"), (0x48, "+"), (0x49, "-"), (0x4A, "*"), (0x4B, "/"),
                           (0x4C, "//"), (0x4D, "%")):
            with self.subTest(sign):
                self.assertEqual(value_of(f"a {sign} b {sign} c"), [kind, kind] + A + B + C)
                self.assertEqual(value_of(f"a {sign} (b {sign} c)"), [kind] + A + [kind] + B + C)
        self.assertEqual(value_of("a - b + c - d"), [0x49, 0x48, 0x49] + A + B + C + D)
        self.assertEqual(value_of("a / b * c % d"), [0x4D, 0x4A, 0x4B] + A + B + C + D)

    def test_power_goes_to_the_right(self):
        self.assertEqual(value_of("a ^ b ^ c"), [0x4E] + A + [0x4E] + B + C)
        self.assertEqual(value_of("(a ^ b) ^ c"), [0x4E, 0x4E] + A + B + C)
        self.assertEqual(value_of("-a ^ -b ^ c"), [0x2E, 0x4E] + A + [0x2E, 0x4E] + B + C)
        self.assertEqual(value_of("(-a) ^ b"), [0x4E, 0x2E] + A + B)
        self.assertEqual(value_of("a ^ spawn b"), [0x4E] + A + [0x30] + B)

    def test_the_levels_one_above_another(self):
        self.assertEqual(value_of("a or b and c"), [0x40] + A + [0x41] + B + C)
        self.assertEqual(value_of("a and b or c"), [0x40, 0x41] + A + B + C)
        self.assertEqual(value_of("not a and b"), [0x41, 0x2F] + A + B)
        self.assertEqual(value_of("not not a == b"), [0x2F, 0x2F, 0x42] + A + B)
        self.assertEqual(value_of("a as whole < b as text"), [0x44, 0x34] + A + [1, 0, 0, 0x34] + B + [0x0A, 0, 0])
        self.assertEqual(value_of("a + b as whole"), [0x34, 0x48] + A + B + [1, 0, 0])
        self.assertEqual(value_of("a + b * c - d"), [0x49, 0x48] + A + [0x4A] + B + C + D)
        self.assertEqual(value_of("a * -b ^ c"), [0x4A] + A + [0x2E, 0x4E] + B + C)
        self.assertEqual(value_of("-a * b"), [0x4A, 0x2E] + A + B)
        self.assertEqual(value_of("a ^ b.c"), [0x4E] + A + [0x2D] + B + short("c"))
        self.assertEqual(value_of("spawn a * b"), [0x4A, 0x30] + A + B)
        self.assertEqual(value_of("(a or b) and c"), [0x41, 0x40] + A + B + C)

    def test_as(self):
        self.assertEqual(value_of("a as whole"), [0x34] + A + [0x01, 0, 0])
        self.assertEqual(value_of("a as decimal 2"), [0x34] + A + [0x03, 1] + short("2") + [0])
        self.assertEqual(value_of("a as packed 5"), [0x34] + A + [0x0F] + short("5") + [0, 0])
        self.assertEqual(value_of("a as packed 5 2.5 up"), [0x34] + A + [0x0F] + short("5") + [1] + short("2.5") + [3])
        for byte, rounding in enumerate(ROUNDINGS, start=1):
            with self.subTest(rounding):
                self.assertEqual(value_of(f"a as whole {rounding}"), [0x34] + A + [0x01, 0, byte])
                self.assertEqual(
                    value_of(f"a as decimal 2 {rounding} as text"),
                    [0x34, 0x34] + A + [0x03, 1] + short("2") + [byte, 0x0A, 0, 0],
                )
        self.assertEqual(value_of("a as b.c"), [0x34] + A + [0x14] + short("b") + short("c") + [0, 0])
        self.assertEqual(value_of("a as fibre of b 1"), [0x34] + A + [0x11, 1, 0x13] + short("b") + [1] + short("1") + [0])

    def test_if(self):
        self.assertEqual(value_of("if a then b else c"), [0x33] + A + B + C)
        self.assertEqual(value_of("if a then b else c or d"), [0x33] + A + B + [0x40] + C + D)
        self.assertEqual(
            value_of("if if a then b else c then if b then c else d else if c then d else a"),
            [0x33, 0x33] + A + B + C + [0x33] + B + C + D + [0x33] + C + D + A,
        )
        self.assertEqual(value_of("(if a then b else c) or d"), [0x40, 0x33] + A + B + C + D)


class Statements(unittest.TestCase):
    def test_blocks(self):
        self.assertEqual(block_of(""), EMPTY)
        self.assertEqual(block_of("leave; break\nnext"), counted([0x69], [0x6A], [0x6B]))

    def test_let(self):
        self.assertEqual(statement_of("let b = 1"), [0x60] + short("b") + [0] + ONE)
        self.assertEqual(statement_of("let b: flags = 1"), [0x60] + short("b") + [1, 0x0B] + ONE)

    def test_a_chain_is_given_a_value(self):
        self.assertEqual(statement_of("a = 1"), [0x61] + A + ONE)
        self.assertEqual(statement_of("a.b = 1"), [0x61, 0x2D] + A + short("b") + ONE)
        self.assertEqual(statement_of("a[b] = 1"), [0x61, 0x2C] + A + B + ONE)
        self.assertEqual(
            statement_of("a(1)[2].b = c == d"),
            [0x61, 0x2D, 0x2C, 0x2B] + A + counted(ONE) + TWO + short("b") + [0x42] + C + D,
        )

    def test_a_call(self):
        self.assertEqual(statement_of("a()"), [0x62, 0x2B] + A + count(0))
        self.assertEqual(statement_of("a.b(1, 2)"), [0x62, 0x2B, 0x2D] + A + short("b") + counted(ONE, TWO))
        self.assertEqual(statement_of("a[1]()(2)"), [0x62, 0x2B, 0x2B, 0x2C] + A + ONE + count(0) + counted(TWO))

    def test_rows_of_statements_that_begin_with_names(self):
        self.assertEqual(
            block_of("a() b() a = b c = d a()"),
            counted(
                [0x62, 0x2B] + A + count(0), [0x62, 0x2B] + B + count(0), [0x61] + A + B, [0x61] + C + D,
                [0x62, 0x2B] + A + count(0),
            ),
        )
        self.assertEqual(
            block_of("a = b as c d = 1"),
            counted([0x61] + A + [0x34] + B + [0x13] + short("c") + [0, 0], [0x61] + D + ONE),
        )

    def test_what_may_go_on_goes_on_over_a_line_end(self):
        self.assertEqual(block_of("a = b\n(c)"), counted([0x61] + A + [0x2B] + B + counted(C)))
        self.assertEqual(block_of("a = b;[c]"), counted([0x61] + A + [0x2C] + B + C))
        self.assertEqual(block_of("a = b\n-c"), counted([0x61] + A + [0x49] + B + C))

    def test_flags(self):
        self.assertEqual(statement_of("flags = only(zero)"), [0x63, 0x27, 4])
        self.assertEqual(block_of("a = flags flags = 1"), counted([0x61] + A + [0x24], [0x63] + ONE))

    def test_if(self):
        self.assertEqual(statement_of("if a {}"), [0x64] + counted(A + EMPTY) + [0])
        self.assertEqual(statement_of("if a {leave} else {}"), [0x64] + counted(A + counted(LEAVE)) + [1] + EMPTY)
        self.assertEqual(
            statement_of("if a {} else if b {leave} else if c {}"),
            [0x64] + counted(A + EMPTY, B + counted(LEAVE), C + EMPTY) + [0],
        )
        self.assertEqual(
            statement_of("if a {} else if b {} else {leave leave}"),
            [0x64] + counted(A + EMPTY, B + EMPTY) + [1] + counted(LEAVE, LEAVE),
        )
        self.assertEqual(
            statement_of("if a { if b {} else {leave} } else {}"),
            [0x64] + counted(A + counted([0x64] + counted(B + EMPTY) + [1] + counted(LEAVE))) + [1] + EMPTY,
        )
        self.assertEqual(
            statement_of("if if a then b else c {} else {}"), [0x64] + counted([0x33] + A + B + C + EMPTY) + [1] + EMPTY)
        self.assertEqual(
            block_of("if a {} if b {} else {}"),
            counted([0x64] + counted(A + EMPTY) + [0], [0x64] + counted(B + EMPTY) + [1] + EMPTY),
        )

    def test_while_and_for(self):
        self.assertEqual(statement_of("while a {leave}"), [0x65] + A + counted(LEAVE))
        self.assertEqual(statement_of("for i in a {}"), [0x66] + short("i") + A + [0] + EMPTY)
        self.assertEqual(statement_of("for i in 1 to 2 {leave}"), [0x66] + short("i") + ONE + [1] + TWO + counted(LEAVE))

    def test_match(self):
        self.assertEqual(statement_of("match a {}"), [0x67] + A + count(0) + [0])
        self.assertEqual(statement_of("match a {else {}}"), [0x67] + A + count(0) + [1] + EMPTY)
        self.assertEqual(
            statement_of("match a { is whole b {leave} is c.d e {} else {leave} }"),
            [0x67] + A + counted([0x01] + short("b") + counted(LEAVE), [0x14] + short("c") + short("d") + short("e") + EMPTY)
            + [1] + counted(LEAVE),
        )
        self.assertEqual(
            statement_of("match a { is b c {} is fibre d {} }"),
            [0x67] + A + counted([0x13] + short("b") + short("c") + EMPTY, [0x11, 0] + short("d") + EMPTY) + [0],
        )

    def test_words(self):
        self.assertEqual(statement_of("return 1"), [0x68] + ONE)
        self.assertEqual(statement_of("leave"), [0x69])
        self.assertEqual(statement_of("break"), [0x6A])
        self.assertEqual(statement_of("next"), [0x6B])
        self.assertEqual(statement_of("raise a"), [0x6E] + A)

    def test_with(self):
        for byte, rounding in enumerate("near down up cut".split()):
            self.assertEqual(statement_of("with rounding " + rounding + " {}"), [0x6C] + counted([0, byte]) + EMPTY)
        for byte, way in enumerate("in out both".split()):
            self.assertEqual(statement_of("with flush " + way + " {}"), [0x6C] + counted([3, byte]) + EMPTY)
        self.assertEqual(statement_of("with precision 1e5d {}"), [0x6C] + counted([1] + short("1e5d")) + EMPTY)
        for bit, flag in enumerate(FLAGS):
            self.assertEqual(statement_of("with trap " + flag + " {}"), [0x6C] + counted([2, 1 << bit]) + EMPTY)
        self.assertEqual(statement_of("with trap stack zero stack {}"), [0x6C] + counted([2, 68]) + EMPTY)
        self.assertEqual(
            statement_of("with flush in, trap zero small, precision 53, rounding up, trap zero { leave }"),
            [0x6C] + counted([3, 0], [2, 6], [1] + short("53"), [0, 2], [2, 4]) + counted(LEAVE),
        )

    def test_try(self):
        self.assertEqual(
            statement_of("try {leave} catch e {}"), [0x6D] + counted(LEAVE) + [1] + short("e") + EMPTY + [0])
        self.assertEqual(statement_of("try {} finally {leave}"), [0x6D] + EMPTY + [0, 1] + counted(LEAVE))
        self.assertEqual(
            statement_of("try {} catch e {leave} finally {}"),
            [0x6D] + EMPTY + [1] + short("e") + counted(LEAVE) + [1] + EMPTY,
        )

    def test_say_and_yield(self):
        self.assertEqual(statement_of("say 1"), [0x6F] + counted(ONE))
        self.assertEqual(statement_of("say a, 1, b"), [0x6F] + counted(A, ONE, B))
        self.assertEqual(statement_of("yield a"), [0x70] + A + [0])
        self.assertEqual(statement_of("yield a into b"), [0x70] + A + [1] + short("b"))

    def test_post(self):
        self.assertEqual(statement_of("post a : b from c"), [0x71] + A + B + C + [0])
        self.assertEqual(
            statement_of('post a : 1 as decimal 2 from c "d\\n"'),
            [0x71] + A + [0x34] + ONE + [3, 1] + short("2") + [0] + C + [1] + long("d\n"),
        )
        self.assertEqual(statement_of('post "a" : "b" from "c" "d"')[-4:], [1] + long("d"))
