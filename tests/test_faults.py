"""The faults of programs: at each place of many programs, each token that may not stand there."""

import unittest

from tests.helper import CALLS_OF_TREES, KEYWORDS, SIGNS, Oracle, coded
from twigtext.calls import read

# Each token by how the document's grammar names it, and how it's written here.
ALL_TOKENS = [(f'"{word}"', word) for word in KEYWORDS + SIGNS] + [
    ("name", "n"), ("code", "CC"), ("number", "1"), ("text", '"t"'),
]

DECLARATIONS = """
let b = 1
let b : whole = 1 let c = 1
record r { }
record r { b : whole , c : text }
account b CC
fn f ( ) { }
fn f [ t ] ( b : t ) -> t { }
fn f [ t , u ] ( b : t , c : u ) { } account b CC
"""

SORTS = """
whole
account
packed 1
list of whole
list of fibre of text
fibre
fibre of fibre
fn ( )
fn ( whole ) -> text
fn ( whole , fibre ) -> fn ( ) -> n
n
n . n
"""

EXPRESSIONS = """
if n then 1 else n
if if n then n else n then n else if n then n else n
n or n or n
n and n or n
not not n == n
n != n
n < n
n <= n
n > n
n >= n
n as whole
n as whole 1 near
n as whole down as text 1 as packed 1 1 cut
n as n . n 1
n as fibre of n up
n as fn ( ) -> whole nearaway
n + n - n
n * n / n // n % n
- - n
spawn n ( )
resume n giving resume n giving n
resume n [ 1 ] . n
resume n * n
picture "t" of n . n
n ^ - n ^ n
n ^ spawn n
n ( ) ( 1 ) ( n , 1 ) [ n ] . n
1 . n
"t" [ 1 ]
true
false
flags . n
CC
only ( )
only ( zero ) . n
only ( zero , small , zero )
( ( n ) ) ( )
[ ]
[ n ]
[ n , 1 , n ]
[ n .. n ]
make n ( )
make n . n ( n : 1 )
make n ( n : n or n , n : 1 ) . n
"""

STATEMENTS = """
let n = 1 leave
let n : whole = n leave
n = 1 n = n
n . n [ 1 ] = n n ( )
n ( ) . n = n leave
n ( 1 ) ( ) n ( ) [ n ] ( )
flags = flags leave
if n { } leave
if n { } else { } leave
if n { leave } else if n { } else if n { } else { leave } break
while n { while n { } } leave
for n in n { }
for n in 1 to n { } leave
match n { }
match n { else { } } leave
match n { is whole n { } is n . n n { leave } else { } }
return n return 1
leave break next
with rounding near { } leave
with rounding down , rounding up , rounding cut { }
with precision 1 , flush in , flush out , flush both { leave }
with trap zero { }
with trap invalid small overflow , trap underflow inexact stack { }
try { } catch n { } leave
try { leave } catch n { leave } finally { } leave
try { } finally { } leave
raise n leave
say n leave
say n , 1 , n leave
yield n leave
yield n into n leave
post n : n from n leave
post n : n from n "t" leave
post n as whole 1 : n as whole from n as whole "t"
"""


def rows(words):
    return [row for row in words.strip().split("\n")]


def programs():
    found = ["module n", "module n use n use n let n = 1"]
    found += [f"module n {row}" for row in rows(DECLARATIONS)]
    found += [f"module n let n : {row} = 1" for row in rows(SORTS)]
    found += [f"module n fn f ( n : {row} ) -> {row} " + "{ }" for row in rows(SORTS)[-5:]]
    found += [f"module n let n = {row}" for row in rows(EXPRESSIONS)]
    found += ["module n fn f ( ) { " + row + " }" for row in rows(STATEMENTS)]
    return found


def grammar_names(words):
    known = dict((written, token) for token, written in ALL_TOKENS)
    known.update({"f": "name", "b": "name", "c": "name", "r": "name", "t": "name", "u": "name"})
    return [known[word] for word in words]


class EachPlace(unittest.TestCase):
    def test_each_token_at_each_place(self):
        """Behind each beginning of these programs: a token is refused there just if the grammar refuses it."""
        oracle = Oracle()
        seen = set()
        for words in programs():
            oracle.back_to(0)
            row = words.split(" ")
            for passed, token in enumerate(grammar_names(row) + [None]):
                beginning = " ".join(row[:passed])
                if beginning not in seen:
                    seen.add(beginning)
                    self.judge(beginning, oracle.allowed())
                if token is not None:
                    oracle.push(token)

    def judge(self, beginning, allowed):
        # A program that may go on may be at its end too, or is not: then the text ends too early.
        answer = read(coded(beginning))
        if "END" in allowed:
            self.assertEqual(answer[0], 0, beginning)
        else:
            self.assertEqual(answer, [-2, 3, len(beginning)], beginning)
        for token, written in ALL_TOKENS:
            longer = f"{beginning} {written}"
            answer = read(coded(longer))
            refused = answer == [-2, 2, len(beginning) + 1]
            self.assertEqual(refused, token not in allowed, longer)
            if not refused:
                self.assertIn(answer[:2], ([0, len(answer) - 2], [-2, 3]), longer)

    def test_each_program_is_read(self):
        for words in programs():
            self.assertEqual(read(coded(words))[0], 0, words)


class ByHand(unittest.TestCase):
    def is_fault(self, words, rule, place):
        for call in CALLS_OF_TREES:
            self.assertEqual(call(coded(words)), [-2, rule, place], words)

    def test_places_are_the_tokens_first_bytes(self):
        self.is_fault("module  \n  whole", 2, 11)
        self.is_fault("# c\nlet", 2, 4)
        self.is_fault("module a; ;->", 2, 11)
        self.is_fault('module a let b = "long text" "another"', 2, 29)

    def test_the_text_ends_where_no_program_ends(self):
        self.is_fault("", 3, 0)
        self.is_fault("  # c\n ", 3, 7)
        self.is_fault("module # c", 3, 10)
        self.is_fault("module a fn f() {\n\n", 3, 19)
        self.is_fault("module a let b = if c then d ;", 3, 30)

    def test_chains(self):
        self.is_fault("module a fn f() { x.y }", 2, 22)
        self.is_fault("module a fn f() { x[1] y() }", 2, 23)
        self.is_fault("module a fn f() { x() == 1 }", 2, 22)
        self.is_fault("module a fn f() { (x)() }", 2, 18)
        self.is_fault("module a fn f() { x().y() = 1 }", 2, 26)
        self.is_fault("module a fn f() { flags() }", 2, 23)
        self.is_fault("module a fn f() { 1 }", 2, 18)

    def test_what_does_not_follow_on_one_another(self):
        self.is_fault("module a let b = 1 == 2 != 3", 2, 24)
        self.is_fault("module a let b = 1 == not c", 2, 22)
        self.is_fault("module a let b = 1 + if c then d else e", 2, 21)
        self.is_fault("module a let b = spawn c ^ 2", 2, 25)
        self.is_fault("module a let b = resume c ^ 2", 2, 26)
        self.is_fault("module a let b = spawn spawn c", 2, 23)
        self.is_fault("module a let b = resume c giving d giving e", 2, 35)
        self.is_fault("module a let b = c as d.e.f", 2, 25)
        self.is_fault("module a let b = [1 .. 2, 3]", 2, 24)
        self.is_fault("module a let b = [1,]", 2, 20)
        self.is_fault("module a let b = f(1,)", 2, 21)
        self.is_fault("module a record r {b: whole,}", 2, 28)
        self.is_fault("module a fn f[]() {}", 2, 14)
        self.is_fault("module a let b = 1 use c", 2, 19)
        self.is_fault("module a module b", 2, 9)
        self.is_fault("module a fn f() { try {} }", 2, 25)
        self.is_fault("module a fn f() { try {} finally {} catch e {} }", 2, 36)
        self.is_fault("module a fn f() { if b {} else {} else {} }", 2, 34)
        self.is_fault("module a fn f() { match b { else {} is whole c {} } }", 2, 36)
        self.is_fault("module a fn f() { with trap {} }", 2, 28)
        self.is_fault("module a fn f() { with rounding away {} }", 2, 32)
        self.is_fault("module a fn f() { return }", 2, 25)
        self.is_fault("module a let b = clear", 2, 17)
        self.is_fault("module a }", 2, 9)

    def test_the_first_fault_from_the_left(self):
        self.is_fault("module if 01", 2, 7)
        self.is_fault("module 01 if", 1, 7)
        self.is_fault('module "x', 3, 9)
        self.is_fault('module if "x', 2, 7)
        self.is_fault("module a # \x01", 1, 11)
        self.is_fault("module a )\x01", 2, 9)
        self.is_fault("module a let b = 1 !", 1, 19)
        self.is_fault("module a let b = (1 $ )", 1, 20)
        self.is_fault("module A", 1, 7)
        self.is_fault("module AB", 2, 7)
        self.is_fault("module a let b = 1 2 \xff", 2, 19)
        self.is_fault("module a let " + "b" * 32 + " ) = 1", 1, 13)
        self.is_fault('module a let b = "a\nb"', 1, 19)
        self.is_fault('module a let b = c "a\nb"', 1, 21)

    def test_a_fault_of_tokens_behind_a_whole_program(self):
        self.is_fault("module a let b = 1\n~", 1, 19)
        self.is_fault('module a "', 3, 10)
        self.is_fault("module a \x00", 1, 9)
