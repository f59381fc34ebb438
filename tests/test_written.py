"""What is written: each form of the document's section on that, with parentheses that are needed and that aren't."""

import re
import unittest

from tests.helper import (
    FLAGS, ROUNDINGS, coded, tree_of, value_of, written_block, written_declaration, written_of, written_sort,
    written_statement, written_value,
)
from twigtext.calls import read, write

# The document's table: the own level, and the form, with <k> where an expression stands at level k.
TABLE = [
    (0, "if <0> then <0> else <0>"),
    (1, "<1> or <2>"),
    (2, "<2> and <3>"),
    (3, "not <3>"),
    (5, "<5> as whole"),
    (5, "<5> as decimal 2"),
    (5, "<5> as b.c near"),
    (5, "<5> as packed 5 2.5 five"),
    (5, "<5> as fn(whole, fibre) -> fibre of text"),
    (8, "-<8>"),
    (8, "spawn <10>"),
    (8, "resume <10>"),
    (8, "resume <10> giving <8>"),
    (8, 'picture "9 \\n" of <10>'),
    (9, "<10> ^ <8>"),
    (10, "<10>()"),
    (10, "<10>(<0>)"),
    (10, "<10>(<0>, <0>, <0>)"),
    (10, "<10>[<0>]"),
    (10, "<10>.b"),
    (11, "[]"),
    (11, "[<0>]"),
    (11, "[<0>, <0>, <0>]"),
    (11, "[<0> .. <0>]"),
    (11, "make r()"),
    (11, "make r(x: <0>)"),
    (11, "make m.r(x: <0>, yy: <0>)"),
    (11, "only()"),
    (11, "only(small, stack)"),
    (11, "1.5"),
    (11, '"a \\" \\\\ \\n"'),
    (11, "true"),
    (11, "false"),
    (11, "flags"),
    (11, "a"),
    (11, "EUR"),
]
TABLE += [(4, f"<5> {sign} <5>") for sign in "== != < <= > >=".split()]
TABLE += [(6, f"<6> {sign} <7>") for sign in "+ -".split()]
TABLE += [(7, f"<7> {sign} <8>") for sign in "* / // %".split()]

LEVEL = re.compile("<([0-9]+)>")


def plain(form):
    """The form with names in it."""
    return LEVEL.sub("a", form)


def filled(form, which, words):
    """The form with the words at one of its places and names at the others."""
    places = list(LEVEL.finditer(form))
    start, end = places[which].span()
    return plain(form[:start]) + words + plain(form[end:])


def statements(*rows):
    """A block of a function as it's written."""
    return "{\n" + "".join(f"  {row}\n" for row in rows) + "}"


class Expressions(unittest.TestCase):
    def test_each_form_alone(self):
        for own, form in TABLE:
            with self.subTest(form):
                self.assertEqual(written_value(plain(form)), plain(form))
                self.assertEqual(written_value(f"(({plain(form)}))"), plain(form))
                self.assertEqual(written_value(LEVEL.sub("((a))", form)), plain(form))

    def test_each_form_within_each(self):
        """With the parentheses that are needed, and none else, whatever stood there."""
        for own, outer in TABLE:
            for which, level in enumerate(LEVEL.findall(outer)):
                for inner_own, inner in TABLE:
                    self.judge(outer, which, plain(inner), inner_own < int(level))

    def judge(self, outer, which, inner, needed):
        expected = filled(outer, which, f"({inner})" if needed else inner)
        given = filled(outer, which, f"(({inner}))")
        self.assertEqual(written_value(given), expected, given)
        self.assertEqual(written_value(expected), expected)
        self.assertEqual(value_of(expected), value_of(given), given)

    def test_parentheses_are_needed_where_leaving_them_out_gives_no_such_tree(self):
        """Of each pair of forms: without those that are written, the text is refused or another tree."""
        for own, outer in TABLE:
            for which, level in enumerate(LEVEL.findall(outer)):
                for inner_own, inner in TABLE:
                    if inner_own < int(level):
                        bare = read(coded("module a let b = " + filled(outer, which, plain(inner))))
                        kept = read(coded("module a let b = " + filled(outer, which, f"({plain(inner)})")))
                        self.assertEqual(kept[0], 0)
                        self.assertNotEqual(bare, kept, (outer, inner))

    def test_the_left_ones_stand_without_parentheses(self):
        for sign in "or and + - * / // %".split():
            with self.subTest(sign):
                self.assertEqual(written_value(f"((a {sign} b) {sign} c) {sign} d"), f"a {sign} b {sign} c {sign} d")
                self.assertEqual(written_value(f"a {sign} (b {sign} (c {sign} d))"), f"a {sign} (b {sign} (c {sign} d))")
        self.assertEqual(written_value("(a as whole) as text"), "a as whole as text")

    def test_power_goes_to_the_right(self):
        self.assertEqual(written_value("a ^ (b ^ c)"), "a ^ b ^ c")
        self.assertEqual(written_value("(a ^ b) ^ c"), "(a ^ b) ^ c")
        self.assertEqual(written_value("-(a ^ (-b))"), "-a ^ -b")
        self.assertEqual(written_value("(-a) ^ b"), "(-a) ^ b")

    def test_comparisons_never_stand_beside_one_another(self):
        self.assertEqual(written_value("(a < b) == (c > d)"), "(a < b) == (c > d)")
        self.assertEqual(written_value("not ((a) == b)"), "not a == b")
        self.assertEqual(written_value("(not a) == b"), "(not a) == b")

    def test_signs_keep_their_blanks(self):
        self.assertEqual(written_value("a-(-b)"), "a - -b")
        self.assertEqual(written_value("- - -a"), "---a")
        self.assertEqual(written_value("a//b%c"), "a // b % c")
        self.assertEqual(written_value("[1..2]"), "[1 .. 2]")
        self.assertEqual(written_value("a . b ( c ,d ) [ e ]"), "a.b(c, d)[e]")

    def test_giving_stays_with_its_resume(self):
        self.assertEqual(written_value("resume a giving (resume b giving c)"), "resume a giving resume b giving c")
        self.assertEqual(written_value("resume (resume a) giving b"), "resume (resume a) giving b")
        self.assertEqual(written_value("resume (resume a giving b)"), "resume (resume a giving b)")
        self.assertEqual(written_value("(resume a giving b) * c"), "resume a giving b * c")
        self.assertEqual(written_value("resume a giving (b * c)"), "resume a giving (b * c)")

    def test_roundings(self):
        for rounding in ROUNDINGS:
            with self.subTest(rounding):
                self.assertEqual(written_value(f"a as whole  {rounding}"), f"a as whole {rounding}")
                self.assertEqual(written_value(f"a as\nwhole 1.5\n{rounding}"), f"a as whole 1.5 {rounding}")

    def test_a_field_of_a_number(self):
        self.assertEqual(written_value("1 .e5"), "1.e5")
        self.assertEqual(written_value("(1.5).b"), "1.5.b")
        self.assertEqual(written_value("1e5d .b"), "1e5d.b")


class Leaves(unittest.TestCase):
    def test_numbers_stand_as_they_were(self):
        for words in ("0", "12", "1.50", "007p", "1e-5d", "0.0e7m", "1h", "9" * 255):
            with self.subTest(words):
                self.assertEqual(written_value(words), words)

    def test_names_and_codes(self):
        for words in ("n" * 31, "a_1", "lets", "A1", "ABCDEFGH"):
            with self.subTest(words):
                self.assertEqual(written_value(words), words)

    def test_texts(self):
        for words in ('""', '"a b"', '"\\""', '"\\\\"', '"\\n"', '"\\\\n"', '"# ; \' ~"', '"\\"\\\\\\n\\\\\\\\n"'):
            with self.subTest(words):
                self.assertEqual(written_value(words), words)
                self.assertEqual(written_value(f"picture {words} of a"), f"picture {words} of a")
                self.assertEqual(written_statement(f"post a:b from c{words}"), f"post a: b from c {words}")

    def test_every_byte_that_a_text_may_have(self):
        held = "".join(chr(byte) for byte in range(32, 127)).replace("\\", "\\\\").replace('"', '\\"')
        self.assertEqual(written_value(f'"{held}"'), f'"{held}"')

    def test_long_texts(self):
        for item in ("x", "\\n", '\\"', "\\\\"):
            for many in (255, 256, 1024):
                words = '"' + item * many + '"'
                self.assertEqual(written_value(words), words)

    def test_only(self):
        self.assertEqual(written_value("only( )"), "only()")
        for flag in FLAGS:
            self.assertEqual(written_value(f"only({flag})"), f"only({flag})")
            self.assertEqual(written_value(f"only({flag}, {flag})"), f"only({flag})")
        self.assertEqual(written_value("only(" + ",".join(reversed(FLAGS)) + ")"), "only(" + ", ".join(FLAGS) + ")")
        self.assertEqual(written_value("only(stack,zero,stack,invalid)"), "only(invalid, zero, stack)")


class Sorts(unittest.TestCase):
    def test_each(self):
        words = "whole fraction decimal half single double extended interval truth text flags error account value"
        others = [
            "packed 5", "packed 1.5e3d", "list of whole", "list of list of b", "fibre", "fibre of text",
            "fibre of fibre", "fn()", "fn() -> whole", "fn(whole)", "fn(whole, fibre of b, fn(c)) -> fn() -> d.e",
            "b", "b.c", "list of fn(list of fibre) -> list of b.c",
        ]
        for sort in words.split() + others:
            with self.subTest(sort):
                spread = sort.replace("b.c", "b . c").replace(" ", " # x\n")
                for sign in ("(", ")", ",", "->"):
                    spread = spread.replace(sign, f" {sign}\n")
                self.assertEqual(written_sort(sort), sort)
                self.assertEqual(written_sort(spread), sort)
                self.assertEqual(written_value(f"a as {spread}"), f"a as {sort}")


class Statements(unittest.TestCase):
    def is_written(self, given, *lines):
        """The lines are those within a function's block."""
        expected = statements(*lines)
        self.assertEqual(written_block(given), expected)
        self.assertEqual(written_declaration("fn f() " + expected), "fn f() " + expected)

    def test_on_one_line(self):
        for given, expected in (
            ("let b=1", "let b = 1"),
            ("let b:list of c=(1)", "let b: list of c = 1"),
            ("let b = (if c then d else e)", "let b = if c then d else e"),
            ("a=1", "a = 1"),
            ("a . b [ (c) ] = (d == e)", "a.b[c] = d == e"),
            ("a(1)[if b then c else d].e=f", "a(1)[if b then c else d].e = f"),
            ("a ( )", "a()"),
            ("a.b((1),(c or d))", "a.b(1, c or d)"),
            ("a[1]()(2)", "a[1]()(2)"),
            ("flags=only(zero)", "flags = only(zero)"),
            ("if(a){}", "if a {}"),
            ("if a{}else{}", "if a {} else {}"),
            ("if a{}else if(b){}else if c or d{}", "if a {} else if b {} else if c or d {}"),
            ("if a{}else if b{}else{}", "if a {} else if b {} else {}"),
            ("while(a){}", "while a {}"),
            ("for b in(c){}", "for b in c {}"),
            ("for b in 1 to(2){}", "for b in 1 to 2 {}"),
            ("match(a){}", "match a {}"),
            ("return(if a then b else c)", "return if a then b else c"),
            ("leave;", "leave"),
            ("break;", "break"),
            ("next;", "next"),
            ("try{}catch e{}", "try {} catch e {}"),
            ("try{}finally{}", "try {} finally {}"),
            ("try{}catch e{}finally{}", "try {} catch e {} finally {}"),
            ("raise(a)", "raise a"),
            ("say(a)", "say a"),
            ("say a,(b),c", "say a, b, c"),
            ("yield(a)", "yield a"),
            ("yield a\ninto b", "yield a into b"),
            ("post(a):(b)from(c)", "post a: b from c"),
            ('post a:b from c"d"', 'post a: b from c "d"'),
        ):
            with self.subTest(given):
                self.assertEqual(written_statement(given), expected)
                self.is_written(given, expected)

    def test_no_expression_of_a_statement_is_in_parentheses(self):
        for form in (
            "let b = {}", "let b: whole = {}", "a[1].b = {}", "a({})", "flags = {}", "if {} {{}}",
            "if {} {{}} else if {} {{}} else {{}}", "while {} {{}}", "for b in {} {{}}", "for b in {} to {} {{}}",
            "match {} {{}}", "return {}", "raise {}", "say {}", "say {}, {}, {}", "yield {}", "yield {} into b",
            "post {}: {} from {}", 'post {}: {} from {} "x"',
        ):
            for own, value in TABLE:
                places = form.replace("{{}}", "").count("{}")
                expected = form.format(*[plain(value)] * places)
                with self.subTest(expected):
                    self.assertEqual(written_statement(form.format(*[f"({plain(value)})"] * places)), expected)
                    self.assertEqual(written_statement(expected), expected)

    def test_modes(self):
        modes = [f"rounding {word}" for word in "near down up cut".split()]
        modes += [f"flush {word}" for word in "in out both".split()]
        modes += ["precision 53", "precision 1e5d"] + [f"trap {flag}" for flag in FLAGS]
        for mode in modes:
            with self.subTest(mode):
                self.is_written(f"with\n{mode}{{}}", f"with {mode} {{}}")
        self.is_written("with trap " + " ".join(reversed(FLAGS)) + "{}", "with trap " + " ".join(FLAGS) + " {}")
        self.is_written("with trap stack zero stack{}", "with trap zero stack {}")
        self.is_written(
            "with flush in,trap zero small,precision 53,rounding up,trap zero{leave}",
            "with flush in, trap small zero, precision 53, rounding up, trap zero {", "  leave", "}")

    def test_blocks_of_one_line_each(self):
        for given, head in (
            ("if a{leave}", "if a"), ("while a{leave}", "while a"), ("for b in c{leave}", "for b in c"),
            ("for b in c to d{leave}", "for b in c to d"), ("with flush in{leave}", "with flush in"),
        ):
            with self.subTest(given):
                self.is_written(given, head + " {", "  leave", "}")

    def test_if(self):
        self.is_written(
            "if a{leave break}else if b{}else if c{next}else{leave}",
            "if a {", "  leave", "  break", "} else if b {} else if c {", "  next", "} else {", "  leave", "}")
        self.is_written(
            "if a{}else{if b{}else{leave}}",
            "if a {} else {", "  if b {} else {", "    leave", "  }", "}")

    def test_try(self):
        self.is_written(
            "try{leave}catch e{break}finally{next}",
            "try {", "  leave", "} catch e {", "  break", "} finally {", "  next", "}")
        self.is_written("try{leave}finally{}", "try {", "  leave", "} finally {}")
        self.is_written("try{}catch e{leave}", "try {} catch e {", "  leave", "}")

    def test_match(self):
        self.is_written("match a{else{}}", "match a {", "  else {}", "}")
        self.is_written("match a{else{leave}}", "match a {", "  else {", "    leave", "  }", "}")
        self.is_written("match a{is whole b{}}", "match a {", "  is whole b {}", "}")
        self.is_written(
            "match a+b{is fibre c{leave}is d.e f{}else{match g{}next}}",
            "match a + b {", "  is fibre c {", "    leave", "  }", "  is d.e f {}", "  else {", "    match g {}",
            "    next", "  }", "}")

    def test_each_statement_has_its_line(self):
        self.is_written("a()b()c=d;leave\n\nleave # e\n", "a()", "b()", "c = d", "leave", "leave")
        self.is_written("a = b as c d = 1", "a = b as c", "d = 1")


class Declarations(unittest.TestCase):
    def test_each(self):
        for given, expected in (
            ("let b=(1)", "let b = 1"),
            ("let b:fn()->c=1", "let b: fn() -> c = 1"),
            ("record b{ }", "record b {}"),
            ("record b{c:text}", "record b { c: text }"),
            ("record b{c:text,d:list of e}", "record b { c: text, d: list of e }"),
            ("account b\nEUR2", "account b EUR2"),
            ("fn g(){}", "fn g() {}"),
            ("fn g[t](){}", "fn g[t]() {}"),
            ("fn g[t,u,v](b:t,c:m.u)->v{}", "fn g[t, u, v](b: t, c: m.u) -> v {}"),
            ("fn g(b:fn()->whole)->fn()->whole{}", "fn g(b: fn() -> whole) -> fn() -> whole {}"),
            ("fn g(){leave}", "fn g() {\n  leave\n}"),
        ):
            with self.subTest(given):
                self.assertEqual(written_declaration(given), expected)
                self.assertEqual(written_declaration(expected), expected)


class Programs(unittest.TestCase):
    def test_a_module_alone(self):
        self.assertEqual(written_of(" module;a # b"), "module a\n")

    def test_uses(self):
        self.assertEqual(written_of("module a use b use cd use b"), "module a\nuse b\nuse cd\nuse b\n")

    def test_declarations(self):
        self.assertEqual(written_of("module a let b = 1 let c = 2"), "module a\n\nlet b = 1\n\nlet c = 2\n")
        self.assertEqual(
            written_of("module a use b let c = 1 fn f(){leave} record d{} account e EUR"),
            "module a\nuse b\n\nlet c = 1\n\nfn f() {\n  leave\n}\n\nrecord d {}\n\naccount e EUR\n",
        )

    def test_comments_and_blanks_leave_nothing(self):
        self.assertEqual(
            written_of("#a\nmodule#b\na;;;\n\n\nlet#c\nb=\n(#d\n1)#e"), written_of("module a let b = 1"))

    def test_counts_of_more_than_a_byte(self):
        given = "module a" + " use b" * 300 + " let c=1" * 515 + " fn f(){" + "leave " * 700 + "}"
        expected = "module a\n" + "use b\n" * 300 + "\nlet c = 1\n" * 515 + "\nfn f() {\n" + "  leave\n" * 700 + "}\n"
        self.assertEqual(written_of(given), expected)
        self.assertEqual(written_value("[1" + ",1" * 299 + "]"), "[1" + ", 1" * 299 + "]")


class Blanks(unittest.TestCase):
    def nested(self, opening, many):
        """Blocks in one another as they're written, the outermost a function's."""
        lines = ["fn f() {"]
        lines += [" " * min(32, 2 * deep) + opening for deep in range(1, many + 1)]
        lines += [" " * min(32, 2 * many + 2) + "leave"]
        lines += [" " * min(32, 2 * deep) + "}" for deep in range(many, -1, -1)]
        return "\n".join(lines)

    def test_two_for_each_block_32_at_most(self):
        for many in (0, 1, 2, 14, 15, 16, 17, 18, 40, 98):
            with self.subTest(many):
                given = "fn f(){" + "while a{" * many + "leave" + "}" * many + "}"
                self.assertEqual(written_declaration(given), self.nested("while a {", many))

    def test_lines_at_depths_15_to_18(self):
        lines = self.nested("while a {", 17).split("\n")
        found = written_declaration("fn f(){" + "while a{" * 17 + "leave" + "}" * 18).split("\n")
        self.assertEqual(found[15:20], lines[15:20])
        self.assertEqual(
            [len(line) - len(line.lstrip(" ")) for line in found[14:23]], [28, 30, 32, 32, 32, 32, 32, 30, 28])

    def test_each_case_is_in_rows_and_its_statements_in_its_block(self):
        given = "fn f(){" + "match a{else{" * 20 + "leave" + "}}" * 20 + "}"
        lines = ["fn f() {"]
        for deep in range(20):
            lines += [" " * min(32, 4 * deep + 2) + "match a {", " " * min(32, 4 * deep + 4) + "else {"]
        lines += [" " * 32 + "leave"]
        for deep in range(19, -1, -1):
            lines += [" " * min(32, 4 * deep + 4) + "}", " " * min(32, 4 * deep + 2) + "}"]
        self.assertEqual(written_declaration(given), "\n".join(lines + ["}"]))

    def test_cases_of_a_sort_at_16_and_deeper(self):
        given = "fn f(){" + "while a{" * 15 + "match b{is c d{leave}}" + "}" * 16
        found = written_declaration(given).split("\n")
        self.assertEqual(
            found[16:21],
            [" " * 32 + "match b {", " " * 32 + "is c d {", " " * 32 + "leave", " " * 32 + "}", " " * 32 + "}"])

    def test_blocks_beside_one_another(self):
        self.assertEqual(
            written_block("while a{while b{leave}}while c{leave}"),
            "{\n  while a {\n    while b {\n      leave\n    }\n  }\n  while c {\n    leave\n  }\n}")

    def test_nothing_has_no_lines_at_any_depth(self):
        found = written_declaration("fn f(){" + "while a{" * 40 + "}" * 41).split("\n")
        self.assertEqual(found[40:42], [" " * 32 + "while a {}", " " * 32 + "}"])


class WhatIsWrittenMayBeRefused(unittest.TestCase):
    """It's a text's tree that is written: how long or deep the written text is isn't asked."""

    def test_a_text_that_is_written_too_long(self):
        given = "module a fn f(){" + "while b{" * 15 + "leave " * 10000 + "}" * 16
        found = written_of(given)
        self.assertGreater(len(found), 65536)
        self.assertEqual(found.count(" " * 32 + "leave\n"), 10000)
        self.assertEqual(read(coded(found)), [-1])
        self.assertEqual(write(coded(found)), [-1])

    def test_a_text_that_is_written_too_deep(self):
        product = "1 * 1 * 1 * 1 * 1 * 1 * 1 * 1 * 1 * 1"
        given = f"module a let b = ({product})" + f" + ({product})" * 20
        self.assertEqual(tree_of(given)[0], 0x90)
        expected = f"module a\n\nlet b = {product}" + f" + {product}" * 20 + "\n"
        self.assertEqual(written_of(given), expected)
        self.assertEqual(read(coded(expected)), [-6])
