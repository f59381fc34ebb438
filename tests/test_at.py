"""Where each node of a text stands, and how many nodes it has: of each kind, marked by hand.

In a marked row "@48" begins a node of that kind and "@" ends the one that was begun last.
"""

import unittest
from collections import Counter

from tests.helper import (
    GREATEST, all_nodes_of, coded, kinds_of, laid_out, least_gap, node_of, nodes_of, placed, without_marks,
)
from twigtext.calls import at

PROGRAMS = """
@90 module a @
@90 module a use b use c @
@90 module a use b @82 account c EUR @ @82 account d USD @ @
"""

DECLARATIONS = """
@80 let b = @25 c @ @
@80 let b = ( @25 c @ ) @
@80 let b : @01 whole @ = ( ( @25 c @ ) ) @
@81 record b { } @
@81 record b { c : @01 whole @ , d : @10 list of @0A text @ @ } @
@82 account b EUR @
@83 fn f ( ) { } @
@83 fn f [ t , u ] ( b : @13 t @ , c : @13 u @ ) -> @14 d . e @ { @69 leave @ } @
"""

SORTS = """
@01 whole @
@02 fraction @
@03 decimal @
@04 half @
@05 single @
@06 double @
@07 extended @
@08 interval @
@09 truth @
@0A text @
@0B flags @
@0C error @
@0D account @
@0E value @
@0F packed 5 @
@10 list of @10 list of @01 whole @ @ @
@11 fibre @
@11 fibre of @11 fibre @ @
@12 fn ( ) @
@12 fn ( @01 whole @ ) @
@12 fn ( @12 fn ( ) @ , @13 c @ ) -> @12 fn ( ) -> @14 d . e @ @ @
@13 c @
@14 c . d @
"""

EXPRESSIONS = """
@20 1.5 @
@21 "x#;y" @
@22 true @
@23 false @
@24 flags @
@25 c @
@26 EUR @
@27 only ( ) @
@27 only ( zero , small ) @
@28 [ ] @
@28 [ @20 1 @ ] @
@28 [ ( @20 1 @ ) ] @
@28 [ @20 1 @ , ( @25 c @ ) , @28 [ ] @ ] @
@29 [ @20 1 @ .. @20 2 @ ] @
@29 [ ( @20 1 @ ) .. ( ( @20 2 @ ) ) ] @
@29 [ @29 [ @20 1 @ .. @20 2 @ ] @ .. @28 [ @25 c @ ] @ ] @
@2A make c ( ) @
@2A make c . d ( ) @
@2A make c . d ( x : @20 1 @ , y : ( @20 2 @ ) ) @
@2B @25 c @ ( ) @
@2B @25 c @ ( @20 1 @ , ( @20 2 @ ) ) @
@2B ( @25 c @ ) ( ) @
@2B ( ( ( @25 c @ ) ) ) ( ( @20 1 @ ) ) @
@2B @2B @2B @25 c @ ( ) @ ( ) @ ( ) @
@2B ( @2B ( @2B ( @25 c @ ) ( ) @ ) ( ) @ ) ( ) @
@2C @25 c @ [ @20 1 @ ] @
@2C ( @25 c @ ) [ ( @20 1 @ ) ] @
@2C ( ( @48 @25 c @ + @25 d @ @ ) ) [ @28 [ ] @ ] @
@2C @28 [ @20 1 @ ] @ [ @20 1 @ ] @
@2D @25 c @ . d @
@2D ( @25 c @ ) . d @
@2D ( ( @2E - @25 c @ @ ) ) . d @
@2D @2C @2B @2D @25 c @ . d @ ( ) @ [ @20 1 @ ] @ . e @
@2E - @25 c @ @
@2E - ( @25 c @ ) @
@2E - @2E - ( ( @25 c @ ) ) @ @
@2F not @25 c @ @
@2F not ( ( @25 c @ ) ) @
@2F not @2F not @42 ( @25 c @ ) == @25 d @ @ @ @
@30 spawn @2B @25 c @ ( ) @ @
@30 spawn ( @25 c @ ) @
@31 resume @25 c @ @
@31 resume ( @25 c @ ) @
@31 resume @25 c @ giving @25 d @ @
@31 resume ( @25 c @ ) giving ( @25 d @ ) @
@31 resume @25 c @ giving @31 resume @25 d @ giving @2E - ( @25 e @ ) @ @ @
@32 picture "x" of @25 c @ @
@32 picture "x" of ( ( @25 c @ ) ) @
@33 if @25 c @ then @25 d @ else @25 e @ @
@33 if ( @25 c @ ) then ( @25 d @ ) else ( @25 e @ ) @
@33 if @33 if @22 true @ then @25 c @ else @25 d @ @ then @25 e @ else @33 if @25 c @ then @25 d @ else @25 e @ @ @
@34 @25 c @ as @01 whole @ @
@34 @25 c @ as @01 whole @ near @
@34 @25 c @ as @03 decimal @ 2 @
@34 @25 c @ as @03 decimal @ 2 five @
@34 ( @25 c @ ) as @14 d . e @ @
@34 ( ( @48 @25 c @ + @25 d @ @ ) ) as @10 list of @13 d @ @ 1 away @
@34 @34 @34 ( ( @25 c @ ) ) as @01 whole @ @ as @0A text @ 1 @ as @11 fibre of @13 d @ @ up @
@34 ( @34 ( @25 c @ ) as @01 whole @ @ ) as @0A text @ @
"""

# Of each sign: the first operand without parentheses, in a pair of them, in several, and the second too.
BETWEEN_TWO = """
@KK @25 c @ SS @25 d @ @
@KK ( @25 c @ ) SS @25 d @ @
@KK ( ( ( @25 c @ ) ) ) SS ( ( @25 d @ ) ) @
@KK ( @KK ( @25 c @ ) SS ( @25 d @ ) @ ) SS ( @KK ( @25 e @ ) SS ( @25 f @ ) @ ) @
( @KK @25 c @ SS @25 d @ @ )
( ( @KK ( @25 c @ ) SS ( @25 d @ ) @ ) )
"""

SIGNS = "or and == != < <= > >= + - * / // % ^".split()

ROWS_OF_SIGNS = """
@49 @49 @25 c @ - @25 d @ @ - @25 e @ @
@49 @49 ( @25 c @ ) - ( @25 d @ ) @ - ( @25 e @ ) @
@49 @25 c @ - ( @49 @25 d @ - @25 e @ @ ) @
@4E @25 c @ ^ @4E @25 d @ ^ @25 e @ @ @
@4E ( @4E @25 c @ ^ @25 d @ @ ) ^ @2E - @4E ( @25 e @ ) ^ @20 2 @ @ @ @
@40 @40 ( @25 c @ ) or @41 @41 ( ( @25 d @ ) ) and @25 e @ @ and @2F not @25 f @ @ @ @ or ( @25 g @ ) @
@44 ( @49 @20 1 @ - ( @49 @20 2 @ - @20 3 @ @ ) @ ) < @20 4 @ @
@48 @4A @2D @2B @25 c @ ( @48 @20 1 @ + @20 2 @ @ ) @ . d @ * @20 3 @ @ + @4C ( @25 e @ ) // @20 4 @ @ @
@46 @34 @48 ( @25 c @ ) + @25 d @ @ as @01 whole @ @ > @34 ( @25 e @ ) as @01 whole @ near @ @
"""

STATEMENTS = """
@60 let b = ( @25 c @ ) @
@60 let b : @01 whole @ = @25 c @ @
@61 @25 b @ = @25 c @ @
@61 @2D @2C @25 b @ [ ( @20 1 @ ) ] @ . d @ = ( ( @25 c @ ) ) @
@62 @2B @25 b @ ( ) @ @
@62 @2B @2D @2B @25 b @ ( @20 1 @ ) @ . d @ ( ( @20 1 @ ) ) @ @
@63 flags = ( @24 flags @ ) @
@64 if @25 b @ { } @
@64 if ( @25 b @ ) { @69 leave @ } else { @6A break @ } @
@64 if @25 b @ { } else if ( @25 c @ ) { @6B next @ } else if @25 d @ { } @
@64 if @25 b @ { @64 if @25 c @ { } else { } @ } else { } @
@65 while @25 b @ { } @
@65 while ( @25 b @ ) { @65 while @25 c @ { @6A break @ } @ } @
@66 for b in @25 c @ { } @
@66 for b in ( @20 1 @ ) to ( @20 2 @ ) { @6B next @ } @
@67 match @25 b @ { } @
@67 match ( @25 b @ ) { is @01 whole @ c { @69 leave @ } is @14 d . e @ c { } else { @6A break @ } } @
@68 return @20 1 @ @
@68 return ( ( @20 1 @ ) ) @
@69 leave @
@6A break @
@6B next @
@6C with rounding near { } @
@6C with rounding up , precision 53 , trap zero small , flush both { @69 leave @ } @
@6D try { } finally { } @
@6D try { @69 leave @ } catch e { @6A break @ } @
@6D try { } catch e { } finally { @6B next @ } @
@6E raise ( @25 b @ ) @
@6F say @25 b @ @
@6F say @25 b @ , ( @25 c @ ) @
@70 yield ( @25 b @ ) @
@70 yield @25 b @ into c @
@71 post @25 b @ : @25 c @ from @25 d @ @
@71 post ( @25 b @ ) : ( @25 c @ ) from ( @25 d @ ) @
@71 post ( @25 b @ ) : ( @25 c @ ) from ( @25 d @ ) "x" @
@69 leave @ @61 @25 b @ = ( @25 c @ ) @ @62 @2B @25 b @ ( ) @ @ @6A break @
"""

ALL_KINDS = set(range(0x01, 0x15)) | set(range(0x20, 0x35)) | set(range(0x40, 0x4F)) | set(range(0x60, 0x72)) | {
    0x80, 0x81, 0x82, 0x83, 0x90,
}

# What may stand before a token and behind the last one; None is nothing where nothing is needed.
GAPS = (" ", "\n\n  ", "; ;", " # ( @ \" c\n", "#\n#)\n;# }\n", None)


def rows(words):
    return words.strip().split("\n")


def values():
    found = rows(EXPRESSIONS) + rows(ROWS_OF_SIGNS)
    for kind, sign in enumerate(SIGNS, 0x40):
        found += rows(BETWEEN_TWO.replace("KK", f"{kind:02X}").replace("SS", sign))
    return found


def programs():
    found = rows(PROGRAMS)
    found += [f"@90 module a {row} @" for row in rows(DECLARATIONS)]
    found += [f"@90 module a @80 let b : {row} = @20 1 @ @ @" for row in rows(SORTS)]
    found += [f"@90 module a @80 let b = {row} @ @" for row in values()]
    found += [f"@90 module a @80 let b = ( ( {row} ) ) @ @82 account c EUR @ @" for row in values()]
    found += ["@90 module a @83 fn f ( ) { " + row + " } @ @" for row in rows(STATEMENTS)]
    return [row.split(" ") for row in found]


def gaps_between(words, gap):
    if gap is None:
        return [least_gap(before, word) for before, word in zip([""] + words, words)]
    return [gap] * len(words)


class EachKind(unittest.TestCase):
    def test_the_rows_have_all_kinds(self):
        found = [kind for row in programs() for kind, first, behind, number in without_marks(row)[1]]
        self.assertEqual(set(found), ALL_KINDS)

    def test_each_node(self):
        for row in programs():
            words, found = without_marks(row)
            text, starts = laid_out(words, gaps_between(words, " "))
            self.assertEqual(all_nodes_of(text), placed(found, words, starts), text)

    def test_each_node_among_blanks_and_comments(self):
        """Before it, between its tokens and behind it."""
        for number, row in enumerate(programs()):
            words, found = without_marks(row)
            gap = GAPS[number % len(GAPS)]
            for end in ("", gap or "#"):
                text, starts = laid_out(words, gaps_between(words, gap), end)
                self.assertEqual(all_nodes_of(text), placed(found, words, starts), text)

    def test_one_row_with_each_gap(self):
        words, found = without_marks(programs()[-1])
        for gap in GAPS:
            text, starts = laid_out(words, gaps_between(words, gap), "\n# end")
            self.assertEqual(all_nodes_of(text), placed(found, words, starts), text)

    def test_behind_the_last_node_there_is_none(self):
        for row in programs():
            words, found = without_marks(row)
            text = coded(" ".join(words))
            for k in (len(found), len(found) + 1, GREATEST):
                self.assertEqual(at(k, text), [-4], words)

    def test_kinds_are_those_of_the_nodes(self):
        for row in programs():
            words, found = without_marks(row)
            text = " ".join(words)
            self.assertEqual(kinds_of(text), sorted(Counter(node[0] for node in found).items()), text)
            self.assertEqual(nodes_of(text), len(found), text)


class ByNumbers(unittest.TestCase):
    """The same by places that were counted, not marked."""

    def is_node(self, k, words, kind, start, end, number):
        self.assertEqual(node_of(k, words), [kind, start, end, number], words)

    def test_the_program_goes_from_its_first_token_to_its_last(self):
        self.is_node(0, "module a", 0x90, 0, 8, 1)
        self.is_node(0, "# c\nmodule a # d", 0x90, 4, 12, 1)
        self.is_node(0, " ;module\na\n;", 0x90, 2, 10, 1)
        self.is_node(0, "module a let b = (1) # d", 0x90, 0, 20, 3)

    def test_parentheses_are_not_the_expressions_own(self):
        self.is_node(2, "module a let b = (1)", 0x20, 18, 19, 1)
        self.is_node(2, "module a let b = ((1 ) )", 0x20, 19, 20, 1)
        self.is_node(2, "module a let b = (c + d)", 0x48, 18, 23, 3)
        self.is_node(1, "module a let b = (c + d)", 0x80, 9, 24, 4)

    def test_first_operands_have_their_parentheses(self):
        self.is_node(2, "module a let b = (c) + d", 0x48, 17, 24, 3)
        self.is_node(3, "module a let b = (c) + d", 0x25, 18, 19, 1)
        self.is_node(2, "module a let b = ((c)) as whole", 0x34, 17, 31, 3)
        self.is_node(2, "module a let b = ( (c)).d", 0x2D, 17, 25, 2)
        self.is_node(2, "module a let b = (c)[1]", 0x2C, 17, 23, 3)
        self.is_node(2, "module a let b = (c)()", 0x2B, 17, 22, 2)
        self.is_node(2, "module a let b = ((c) + d)", 0x48, 18, 25, 3)

    def test_last_operands_have_their_parentheses(self):
        self.is_node(2, "module a let b = c + (d)", 0x48, 17, 24, 3)
        self.is_node(2, "module a let b = -(c)", 0x2E, 17, 21, 2)
        self.is_node(2, "module a let b = (-(c) )", 0x2E, 18, 22, 2)

    def test_brackets_are_a_lists_own(self):
        self.is_node(2, "module a let b = [ ]", 0x28, 17, 20, 1)
        self.is_node(2, "module a let b = ([c, d])", 0x28, 18, 24, 3)
        self.is_node(2, "module a let b = [c .. d]", 0x29, 17, 25, 3)
        self.is_node(4, "module a let b = [c .. d]", 0x25, 23, 24, 1)

    def test_statements_end_where_their_last_token_does(self):
        self.is_node(2, "module a fn f() { b() ; leave }", 0x62, 18, 21, 3)
        self.is_node(5, "module a fn f() { b() ; leave }", 0x69, 24, 29, 1)
        self.is_node(2, "module a fn f() { if b {} # else\n leave }", 0x64, 18, 25, 2)
        self.is_node(1, "module a fn f() { if b {} # else\n leave }", 0x83, 9, 41, 4)

    def test_kinds_rise(self):
        self.assertEqual(kinds_of("module a"), [(0x90, 1)])
        self.assertEqual(
            kinds_of("module a let b: whole = c + c + 1 account d EUR fn f() { let b: whole = c }"),
            [(0x01, 2), (0x20, 1), (0x25, 3), (0x48, 2), (0x60, 1), (0x80, 1), (0x82, 1), (0x83, 1), (0x90, 1)],
        )

    def test_bytes_that_are_like_kinds_are_not_counted(self):
        self.assertEqual(kinds_of('module a let b = "` abc ( ) !"'), [(0x21, 1), (0x80, 1), (0x90, 1)])
        self.assertEqual(kinds_of("module a let b = [" + "1, " * 0x24 + "1]"), [
            (0x20, 0x25), (0x28, 1), (0x80, 1), (0x90, 1),
        ])
