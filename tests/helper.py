"""What the tests share: texts as bytes, the parts of trees, the document's grammar read by itself, and its
written forms told by themselves."""

from twigtext.calls import at, kinds, names, nodes, read, same, tokens, write

GREATEST = 4294967295


def first_node(text):
    return at(0, text)


def greatest_node(text):
    return at(GREATEST, text)


def same_as_itself(text):
    return same(text, text)


def same_as_another(text):
    return same(text, [ord(letter) for letter in "module a"])


def another_as_this(text):
    return same([ord(letter) for letter in "module a"], text)


CALLS_OF_TREES = (read, write, nodes, kinds, first_node, names, same_as_itself, same_as_another, another_as_this)

KEYWORDS = """
account and as away both break catch clear cut decimal double down else error extended false fibre finally five
flags flush fn for fraction from giving half if in inexact interval into invalid is leave let list make match
module near nearaway nearcut next not of only or out overflow packed picture post precision raise record resume
return rounding say single small spawn stack text then to trap true truth try underflow up use value while whole
with yield zero
""".split()

SIGNS = "( ) [ ] { } , : . .. -> = == != < <= > >= + - * / // % ^".split()

FLAGS = "invalid small zero overflow underflow inexact stack".split()

ROUNDINGS = "near down up cut nearaway nearcut away five".split()


def coded(words):
    """The bytes of a text that's written here in Python's words."""
    return [ord(letter) for letter in words]


def tokens_of(words):
    """The tokens that are answered, three numbers each."""
    answer = tokens(coded(words))
    if answer[0] != 0:
        raise AssertionError(f"{words!r} is refused: {answer}")
    triples = [tuple(answer[place:place + 3]) for place in range(2, len(answer), 3)]
    if len(triples) != answer[1] or len(answer) != 2 + 3 * answer[1]:
        raise AssertionError(f"{words!r}: the count is off: {answer}")
    return triples


def spelled_tokens(words):
    """The tokens that are answered, each as its kind and its bytes."""
    return [(kind, words[start:end]) for kind, start, end in tokens_of(words)]


def bytes_of(call, words):
    """The bytes that are answered, behind the 0 and how many they are."""
    answer = call(coded(words))
    if answer[0] != 0:
        raise AssertionError(f"{words!r} is refused: {answer}")
    if len(answer) != 2 + answer[1]:
        raise AssertionError(f"{words!r}: the count is off: {answer}")
    return answer[2:]


def tree_of(words):
    """The tree that is answered."""
    return bytes_of(read, words)


def written_of(words):
    """The text that is answered as written."""
    return "".join(chr(byte) for byte in bytes_of(write, words))


def nodes_of(words):
    """The number of nodes that is answered."""
    answer = nodes(coded(words))
    if answer[0] != 0 or len(answer) != 2:
        raise AssertionError(f"{words!r}: {answer}")
    return answer[1]


def node_of(k, words):
    """The four numbers that are answered of a node."""
    answer = at(k, coded(words))
    if answer[0] != 0 or len(answer) != 5:
        raise AssertionError(f"node {k} of {words!r}: {answer}")
    return answer[1:]


def all_nodes_of(words):
    """The four numbers of each node."""
    return [node_of(k, words) for k in range(nodes_of(words))]


def kinds_of(words):
    """The kinds that are answered and how many nodes of each there are, as pairs."""
    answer = kinds(coded(words))
    if answer[0] != 0 or len(answer) != 2 + 2 * answer[1]:
        raise AssertionError(f"{words!r}: {answer}")
    return [tuple(answer[place:place + 2]) for place in range(2, len(answer), 2)]


def names_of(words):
    """The names that are answered."""
    answer = names(coded(words))
    if answer[0] != 0:
        raise AssertionError(f"{words!r} is refused: {answer}")
    found, place = [], 2
    while place < len(answer):
        found.append("".join(chr(byte) for byte in answer[place + 1:place + 1 + answer[place]]))
        place += 1 + answer[place]
    if len(found) != answer[1] or place != len(answer):
        raise AssertionError(f"{words!r}: the count is off: {answer}")
    return found


def are_same(words, others):
    """Whether it's answered that both have one tree."""
    answer = same(coded(words), coded(others))
    if answer not in ([0, 0], [0, 1]):
        raise AssertionError(f"{words!r} and {others!r}: {answer}")
    return answer == [0, 1]


# Words in which nodes are marked: "@48" begins a node of that kind, "@" ends the one that was begun last.

def marked(words, kind):
    return [f"@{kind:02X}"] + words + ["@"]


def without_marks(words):
    """The words that are no marks; and of each node, in the order in which they begin: its kind, how many words
    stand before its first one, how many up to its last one, how many nodes it has."""
    plain, found, begun = [], [], []
    for word in words:
        if word == "@":
            node = begun.pop()
            found[node] = found[node][:2] + (len(plain), len(found) - node)
        elif word.startswith("@"):
            begun.append(len(found))
            found.append((int(word[1:], 16), len(plain)))
        else:
            plain.append(word)
    if begun != []:
        raise AssertionError(f"nodes that have no end: {words}")
    return plain, found


def laid_out(words, gaps, end=""):
    """The words, each behind its gap, then the end; and where each of them begins."""
    text, starts = "", []
    for word, gap in zip(words, gaps):
        starts.append(len(text + gap))
        text += gap + word
    return text + end, starts


def placed(found, words, starts):
    """The nodes that without_marks tells, but by the places where their words begin and end."""
    return [[kind, starts[first], starts[behind - 1] + len(words[behind - 1]), number]
            for kind, first, behind, number in found]


def least_gap(before, word):
    """What must stand between two tokens: nothing if one of them is a sign that stays alone."""
    alone = "()[]{},:^*+"
    return "" if before == "" or before[-1] in alone or word[0] in alone else " "


# The parts of trees, as the document's section on trees tells them.

def short(word):
    """A name, a code or a number."""
    return [len(word)] + coded(word)


def long(word):
    """A text."""
    return [len(word) % 256, len(word) // 256] + coded(word)


def count(number):
    return [number % 256, number // 256 % 256, number // 65536 % 256, number // 16777216]


def counted(*parts):
    """The count of the parts and the parts."""
    return count(len(parts)) + [byte for part in parts for byte in part]


def name(word):
    return [0x25] + short(word)


def number(word):
    return [0x20] + short(word)


def program(*declarations):
    return [0x90] + short("a") + count(0) + counted(*declarations)


def function_head():
    """The tree of `module a fn f() { .. }` up to the block."""
    return program([0x83] + short("f") + count(0) + count(0) + [0])


def value_of(words):
    """The tree of an expression, cut out of a program that has little else."""
    return cut_out(tree_of(f"module a let b = {words}"), program([0x80] + short("b") + [0]))


def block_of(words):
    """The tree of a block, which here is told without its braces."""
    return cut_out(tree_of("module a fn f() { " + words + " }"), function_head())


def statement_of(words):
    """The tree of a statement, likewise."""
    return cut_out(block_of(words), count(1))


def declaration_of(words):
    return cut_out(tree_of(f"module a {words}"), program([]))


def sort_of(words):
    """The tree of a sort, likewise."""
    start = program([0x80] + short("b") + [1])
    end = number("1")
    tree = cut_out(tree_of(f"module a let b: {words} = 1"), start)
    if tree[len(tree) - len(end):] != end:
        raise AssertionError(f"{words!r}: the sort's tree isn't followed by 1's: {tree}")
    return tree[:len(tree) - len(end)]


def cut_out(tree, start):
    if tree[:len(start)] != start:
        raise AssertionError(f"the tree {tree} doesn't begin with {start}")
    return tree[len(start):]


# What is written of parts of programs, cut out of what is written of little else.

def written_declaration(words):
    return cut_ends(written_of(f"module a {words}"), "module a\n\n", "\n")


def written_value(words):
    return cut_ends(written_declaration(f"let b = {words}"), "let b = ", "")


def written_sort(words):
    return cut_ends(written_declaration(f"let b: {words} = 1"), "let b: ", " = 1")


def written_block(words):
    """What is written of a block within a function's."""
    return cut_ends(written_declaration("fn f() { " + words + " }"), "fn f() ", "")


def written_statement(words):
    return cut_ends(written_block(words), "{\n  ", "\n}")


def cut_ends(words, start, end):
    if not words.startswith(start) or not words.endswith(end):
        raise AssertionError(f"{words!r} doesn't begin with {start!r} or end with {end!r}")
    return words[len(start):len(words) - len(end)]


# The document's grammar as it stands there, but that a chain is told by what it ends with, and that a
# program ends with the text.

GRAMMAR = """
whole    = program END
program  = "module" name { "use" name } { decl }
decl     = "let" name [ ":" sort ] "=" expr
         | "record" name "{" [ name ":" sort { "," name ":" sort } ] "}"
         | "account" name code
         | "fn" name [ "[" name { "," name } "]" ] "(" [ name ":" sort { "," name ":" sort } ] ")" [ "->" sort ] block
sort     = "whole" | "fraction" | "decimal" | "half" | "single" | "double" | "extended" | "interval" | "truth" | "text" | "flags"
         | "error" | "account" | "value" | "packed" number | "list" "of" sort | "fibre" [ "of" sort ]
         | "fn" "(" [ sort { "," sort } ] ")" [ "->" sort ] | name [ "." name ]
block    = "{" { statement } "}"
statement = "let" name [ ":" sort ] "=" expr
         | chain "=" expr
         | called
         | "flags" "=" expr
         | "if" expr block { "else" "if" expr block } [ "else" block ]
         | "while" expr block
         | "for" name "in" expr [ "to" expr ] block
         | "match" expr "{" { "is" sort name block } [ "else" block ] "}"
         | "return" expr | "leave" | "break" | "next"
         | "with" mode { "," mode } block
         | "try" block ( "catch" name block [ "finally" block ] | "finally" block )
         | "raise" expr | "say" expr { "," expr } | "yield" expr [ "into" name ]
         | "post" expr ":" expr "from" expr [ text ]
mode     = "rounding" ( "near" | "down" | "up" | "cut" ) | "precision" number | "trap" flag { flag } | "flush" ( "in" | "out" | "both" )
flag     = "invalid" | "small" | "zero" | "overflow" | "underflow" | "inexact" | "stack"
chain    = name | ( chain | called ) ( "[" expr "]" | "." name )
called   = ( chain | called ) "(" [ expr { "," expr } ] ")"
expr     = "if" expr "then" expr "else" expr | either
either   = both { "or" both }
both     = negated { "and" negated }
negated  = "not" negated | test
test     = cast [ ( "==" | "!=" | "<" | "<=" | ">" | ">=" ) cast ]
cast     = sum { "as" sort [ number ] [ "near" | "down" | "up" | "cut" | "nearaway" | "nearcut" | "away" | "five" ] }
sum      = product { ( "+" | "-" ) product }
product  = signed { ( "*" | "/" | "//" | "%" ) signed }
signed   = "-" signed | "spawn" post | "resume" post [ "giving" signed ] | "picture" text "of" post | power
power    = post [ "^" signed ]
post     = first { "(" [ expr { "," expr } ] ")" | "[" expr "]" | "." name }
first    = number | text | "true" | "false" | "flags" | name | code | "only" "(" [ flag { "," flag } ] ")" | "(" expr ")"
         | "[" [ expr ( ".." expr | { "," expr } ) ] "]" | "make" name [ "." name ] "(" [ name ":" expr { "," name ":" expr } ] ")"
"""


class Grammar:
    """The document's grammar as plain productions; those of { }, [ ] and ( ) have names of their own.

    A token is '"let"', or name, code, number, text, END.
    """

    def __init__(self, source):
        self.productions = {}
        self.words = source.split()
        self.at = 0
        while self.at < len(self.words):
            head = self.words[self.at]
            self.at += 2
            self.productions[head] = self.choices()

    def done(self):
        """A new production begins with a name and a = that isn't in quotes."""
        return self.at >= len(self.words) or self.words[self.at + 1:self.at + 2] == ["="]

    def choices(self):
        found = [self.row()]
        while not self.done() and self.words[self.at] == "|":
            self.at += 1
            found.append(self.row())
        return found

    def row(self):
        found = []
        while not self.done() and self.words[self.at] not in ("|", "}", "]", ")"):
            word = self.words[self.at]
            self.at += 1
            found.append(self.group(word) if word in ("{", "[", "(") else word)
        return tuple(found)

    def group(self, opening):
        head = f"{opening}{self.at}"
        rows = self.choices()
        self.at += 1
        if opening == "{":
            rows = [(head,) + row for row in rows]
        self.productions[head] = rows if opening == "(" else [()] + rows
        return head


class Oracle:
    """Which tokens may come behind others: by Earley's way, which takes any grammar as it stands.

    Its columns hold (head, row, how much of the row is passed, where the head began).
    """

    def __init__(self):
        self.productions = Grammar(GRAMMAR).productions
        self.empty = self.those_that_may_be_empty()
        self.columns = [self.filled([("whole", row, 0, 0) for row in self.productions["whole"]])]

    def those_that_may_be_empty(self):
        empty = set()
        grown = True
        while grown:
            grown = False
            for head, rows in self.productions.items():
                if head not in empty and any(all(part in empty for part in row) for row in rows):
                    empty.add(head)
                    grown = True
        return empty

    def filled(self, starting, columns=()):
        column = list(starting)
        seen = set(column)
        at = 0
        while at < len(column):
            for item in self.following(column[at], column, columns):
                if item not in seen:
                    seen.add(item)
                    column.append(item)
            at += 1
        return column

    def following(self, item, column, columns):
        head, row, passed, start = item
        if passed == len(row):
            # What began in this same column and is empty was passed when it was asked for.
            before = columns[start] if start < len(columns) else column
            return [(h, r, p + 1, s) for h, r, p, s in list(before) if r[p:p + 1] == (head,)]
        if row[passed] not in self.productions:
            return []
        asked = [(row[passed], other, 0, len(columns)) for other in self.productions[row[passed]]]
        if row[passed] in self.empty:
            asked.append((head, row, passed + 1, start))
        return asked

    def back_to(self, length):
        """Forgets all tokens but the first so many."""
        self.columns = self.columns[:length + 1]

    def push(self, token):
        moved = [(h, r, p + 1, s) for h, r, p, s in self.columns[-1] if r[p:p + 1] == (token,)]
        if moved == []:
            raise AssertionError(f"{token} may not come here")
        self.columns.append(self.filled(moved, self.columns))

    def allowed(self):
        """All tokens that may come next; END if the program may end."""
        parts = {row[passed] for head, row, passed, start in self.columns[-1] if passed < len(row)}
        return {part for part in parts if part not in self.productions}


class Told:
    """A tree's bytes told from the left by the document's sections on trees and on what is written.

    Each method passes what it's called by and gives back what is written of it; kinds has each node's kind,
    names each name.
    """

    SORTS = "whole fraction decimal half single double extended interval truth text flags error account value".split()
    SIGNS = "or and == != < <= > >= + - * / // % ^".split()
    LEVELS = {"or": (1, 1, 2), "and": (2, 2, 3), "+": (6, 6, 7), "-": (6, 6, 7), "^": (9, 10, 8)}

    def __init__(self, tree):
        self.tree = tree
        self.passed = 0
        self.kinds = []
        self.names = set()

    def byte(self):
        self.passed += 1
        return self.tree[self.passed - 1]

    def kind(self):
        self.kinds.append(self.byte())
        return self.kinds[-1]

    def letters(self, size):
        return "".join(chr(self.byte()) for at in range(size))

    def word(self):
        return self.letters(self.byte())

    def name(self):
        word = self.word()
        self.names.add(word)
        return word

    def text(self):
        held = self.letters(self.byte() + 256 * self.byte())
        return '"' + held.replace("\\", "\\\\").replace('"', '\\"').replace("\n", "\\n") + '"'

    def count(self):
        return self.byte() + 256 * (self.byte() + 256 * (self.byte() + 256 * self.byte()))

    def each(self, tell):
        return [tell() for at in range(self.count())]

    def row(self, tell):
        return ", ".join(self.each(tell))

    def maybe(self, before, tell):
        return before + tell() if self.byte() == 1 else ""

    def flags(self, between):
        held = self.byte()
        return between.join(flag for bit, flag in enumerate(FLAGS) if held & 1 << bit)

    def sort(self):
        kind = self.kind()
        if kind <= 0x0E:
            return self.SORTS[kind - 1]
        if kind == 0x0F:
            return f"packed {self.word()}"
        if kind == 0x10:
            return f"list of {self.sort()}"
        if kind == 0x11:
            return "fibre" + self.maybe(" of ", self.sort)
        if kind == 0x12:
            return f"fn({self.row(self.sort)})" + self.maybe(" -> ", self.sort)
        return self.name() if kind == 0x13 else f"{self.name()}.{self.name()}"

    def value(self, level=0):
        own, words = self.value_and_level()
        return f"({words})" if own < level else words

    def value_and_level(self):
        kind = self.kind()
        if kind >= 0x40:
            return self.between_two(self.SIGNS[kind - 0x40])
        return {
            0x20: lambda: (11, self.word()), 0x21: lambda: (11, self.text()), 0x22: lambda: (11, "true"),
            0x23: lambda: (11, "false"), 0x24: lambda: (11, "flags"), 0x25: lambda: (11, self.name()),
            0x26: lambda: (11, self.word()), 0x27: lambda: (11, f"only({self.flags(', ')})"),
            0x28: lambda: (11, f"[{self.row(self.value)}]"),
            0x29: lambda: (11, f"[{self.value()} .. {self.value()}]"),
            0x2A: lambda: (11, f"make {self.made()}({self.row(self.setting)})"),
            0x2B: lambda: (10, f"{self.value(10)}({self.row(self.value)})"),
            0x2C: lambda: (10, f"{self.value(10)}[{self.value()}]"),
            0x2D: lambda: (10, f"{self.value(10)}.{self.name()}"),
            0x2E: lambda: (8, f"-{self.value(8)}"), 0x2F: lambda: (3, f"not {self.value(3)}"),
            0x30: lambda: (8, f"spawn {self.value(10)}"),
            0x31: lambda: (8, f"resume {self.value(10)}" + self.maybe(" giving ", lambda: self.value(8))),
            0x32: lambda: (8, f"picture {self.text()} of {self.value(10)}"),
            0x33: lambda: (0, f"if {self.value()} then {self.value()} else {self.value()}"),
            0x34: lambda: (5, f"{self.value(5)} as {self.sort()}" + self.maybe(" ", self.word) + self.rounding()),
        }[kind]()

    def between_two(self, sign):
        usual = (4, 5, 5) if sign[0] in "=!<>" else (7, 7, 8)
        own, left, right = self.LEVELS.get(sign, usual)
        return own, f"{self.value(left)} {sign} {self.value(right)}"

    def made(self):
        return f"{self.name()}.{self.name()}" if self.byte() == 1 else self.name()

    def setting(self):
        return f"{self.name()}: {self.value()}"

    def rounding(self):
        byte = self.byte()
        return " " + ROUNDINGS[byte - 1] if byte > 0 else ""

    def lines(self, rows, deep):
        if rows == []:
            return "{}"
        blanks = " " * min(32, 2 * deep + 2)
        return "{\n" + "".join(f"{blanks}{row}\n" for row in rows) + " " * min(32, 2 * deep) + "}"

    def block(self, deep):
        return self.lines(self.each(lambda: self.statement(deep + 1)), deep)

    def statement(self, deep):
        kind = self.kind()
        return {
            0x60: self.let, 0x61: lambda: f"{self.value(10)} = {self.value()}", 0x62: lambda: self.value(10),
            0x63: lambda: f"flags = {self.value()}",
            0x64: lambda: " else ".join(self.each(lambda: f"if {self.value()} {self.block(deep)}"))
            + self.maybe(" else ", lambda: self.block(deep)),
            0x65: lambda: f"while {self.value()} {self.block(deep)}",
            0x66: lambda: f"for {self.name()} in {self.value()}{self.maybe(' to ', self.value)} {self.block(deep)}",
            0x67: lambda: f"match {self.value()} {self.cases(deep)}",
            0x68: lambda: f"return {self.value()}", 0x69: lambda: "leave", 0x6A: lambda: "break",
            0x6B: lambda: "next", 0x6C: lambda: f"with {self.row(self.mode)} {self.block(deep)}",
            0x6D: lambda: f"try {self.block(deep)}" + self.maybe(" catch ", lambda: f"{self.name()} {self.block(deep)}")
            + self.maybe(" finally ", lambda: self.block(deep)),
            0x6E: lambda: f"raise {self.value()}", 0x6F: lambda: f"say {self.row(self.value)}",
            0x70: lambda: f"yield {self.value()}" + self.maybe(" into ", self.name),
            0x71: lambda: f"post {self.value()}: {self.value()} from {self.value()}" + self.maybe(" ", self.text),
        }[kind]()

    def let(self):
        return f"let {self.name()}{self.maybe(': ', self.sort)} = {self.value()}"

    def cases(self, deep):
        rows = self.each(lambda: f"is {self.sort()} {self.name()} {self.block(deep + 1)}")
        last = self.maybe("else ", lambda: self.block(deep + 1))
        return self.lines(rows + [last] if last else rows, deep)

    def mode(self):
        which = self.byte()
        if which == 0:
            return "rounding " + ROUNDINGS[self.byte()]
        if which == 1:
            return "precision " + self.word()
        return "trap " + self.flags(" ") if which == 2 else "flush " + ["in", "out", "both"][self.byte()]

    def field(self):
        return f"{self.name()}: {self.sort()}"

    def declaration(self):
        kind = self.kind()
        if kind == 0x80:
            return self.let()
        if kind == 0x82:
            return f"account {self.name()} {self.word()}"
        name = self.name()
        if kind == 0x81:
            fields = self.row(self.field)
            return f"record {name} " + ("{ " + fields + " }" if fields else "{}")
        sorts = self.row(self.name)
        head = f"fn {name}" + (f"[{sorts}]" if sorts else "")
        return head + f"({self.row(self.field)})" + self.maybe(" -> ", self.sort) + " " + self.block(0)

    def program(self):
        self.kind()
        words = f"module {self.name()}\n" + "".join(self.each(lambda: f"use {self.name()}\n"))
        words += "".join(self.each(lambda: f"\n{self.declaration()}\n"))
        if self.passed != len(self.tree):
            raise AssertionError(f"{len(self.tree) - self.passed} bytes of the tree are left")
        return words
