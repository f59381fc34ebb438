"""What the tests share: texts as bytes, the parts of trees, and the document's grammar read by itself."""

from twigtext.calls import read, tokens

KEYWORDS = """
account and as away both break catch clear cut decimal double down else error extended false fibre finally five
flags flush fn for fraction from giving half if in inexact interval into invalid is leave let list make match
module near nearaway nearcut next not of only or out overflow packed picture post precision raise record resume
return rounding say single small spawn stack text then to trap true truth try underflow up use value while whole
with yield zero
""".split()

SIGNS = "( ) [ ] { } , : . .. -> = == != < <= > >= + - * / // % ^".split()

FLAGS = "invalid small zero overflow underflow inexact stack".split()

ROUNDINGS = "near down up cut nearaway nearcut away five".split()


def coded(words):
    """The bytes of a text that's written here in Python's words."""
    return [ord(letter) for letter in words]


def tokens_of(words):
    """The tokens that are answered, three numbers each."""
    answer = tokens(coded(words))
    if answer[0] != 0:
        raise AssertionError(f"{words!r} is refused: {answer}")
    triples = [tuple(answer[at:at + 3]) for at in range(2, len(answer), 3)]
    if len(triples) != answer[1] or len(answer) != 2 + 3 * answer[1]:
        raise AssertionError(f"{words!r}: the count is off: {answer}")
    return triples


def spelled_tokens(words):
    """The tokens that are answered, each as its kind and its bytes."""
    return [(kind, words[start:end]) for kind, start, end in tokens_of(words)]


def tree_of(words):
    """The tree that is answered."""
    answer = read(coded(words))
    if answer[0] != 0:
        raise AssertionError(f"{words!r} is refused: {answer}")
    if len(answer) != 2 + answer[1]:
        raise AssertionError(f"{words!r}: the count is off: {answer}")
    return answer[2:]


# The parts of trees, as the document's section on trees tells them.

def short(word):
    """A name, a code or a number."""
    return [len(word)] + coded(word)


def long(word):
    """A text."""
    return [len(word) % 256, len(word) // 256] + coded(word)


def count(number):
    return [number % 256, number // 256 % 256, number // 65536 % 256, number // 16777216]


def counted(*parts):
    """The count of the parts and the parts."""
    return count(len(parts)) + [byte for part in parts for byte in part]


def name(word):
    return [0x25] + short(word)


def number(word):
    return [0x20] + short(word)


def program(*declarations):
    return [0x90] + short("a") + count(0) + counted(*declarations)


def function_head():
    """The tree of `module a fn f() { .. }` up to the block."""
    return program([0x83] + short("f") + count(0) + count(0) + [0])


def value_of(words):
    """The tree of an expression, cut out of a program that has little else."""
    return cut_out(tree_of(f"module a let b = {words}"), program([0x80] + short("b") + [0]))


def block_of(words):
    """The tree of a block, which here is told without its braces."""
    return cut_out(tree_of("module a fn f() { " + words + " }"), function_head())


def statement_of(words):
    """The tree of a statement, likewise."""
    return cut_out(block_of(words), count(1))


def declaration_of(words):
    return cut_out(tree_of(f"module a {words}"), program([]))


def sort_of(words):
    """The tree of a sort, likewise."""
    start = program([0x80] + short("b") + [1])
    end = number("1")
    tree = cut_out(tree_of(f"module a let b: {words} = 1"), start)
    if tree[len(tree) - len(end):] != end:
        raise AssertionError(f"{words!r}: the sort's tree isn't followed by 1's: {tree}")
    return tree[:len(tree) - len(end)]


def cut_out(tree, start):
    if tree[:len(start)] != start:
        raise AssertionError(f"the tree {tree} doesn't begin with {start}")
    return tree[len(start):]


# The document's grammar as it stands there, but that a chain is told by what it ends with, and that a
# program ends with the text.

GRAMMAR = """
whole    = program END
program  = "module" name { "use" name } { decl }
decl     = "let" name [ ":" sort ] "=" expr
         | "record" name "{" [ name ":" sort { "," name ":" sort } ] "}"
         | "account" name code
         | "fn" name [ "[" name { "," name } "]" ] "(" [ name ":" sort { "," name ":" sort } ] ")" [ "->" sort ] block
sort     = "whole" | "fraction" | "decimal" | "half" | "single" | "double" | "extended" | "interval" | "truth" | "text" | "flags"
         | "error" | "account" | "value" | "packed" number | "list" "of" sort | "fibre" [ "of" sort ]
         | "fn" "(" [ sort { "," sort } ] ")" [ "->" sort ] | name [ "." name ]
block    = "{" { statement } "}"
statement = "let" name [ ":" sort ] "=" expr
         | chain "=" expr
         | called
         | "flags" "=" expr
         | "if" expr block { "else" "if" expr block } [ "else" block ]
         | "while" expr block
         | "for" name "in" expr [ "to" expr ] block
         | "match" expr "{" { "is" sort name block } [ "else" block ] "}"
         | "return" expr | "leave" | "break" | "next"
         | "with" mode { "," mode } block
         | "try" block ( "catch" name block [ "finally" block ] | "finally" block )
         | "raise" expr | "say" expr { "," expr } | "yield" expr [ "into" name ]
         | "post" expr ":" expr "from" expr [ text ]
mode     = "rounding" ( "near" | "down" | "up" | "cut" ) | "precision" number | "trap" flag { flag } | "flush" ( "in" | "out" | "both" )
flag     = "invalid" | "small" | "zero" | "overflow" | "underflow" | "inexact" | "stack"
chain    = name | ( chain | called ) ( "[" expr "]" | "." name )
called   = ( chain | called ) "(" [ expr { "," expr } ] ")"
expr     = "if" expr "then" expr "else" expr | either
either   = both { "or" both }
both     = negated { "and" negated }
negated  = "not" negated | test
test     = cast [ ( "==" | "!=" | "<" | "<=" | ">" | ">=" ) cast ]
cast     = sum { "as" sort [ number ] [ "near" | "down" | "up" | "cut" | "nearaway" | "nearcut" | "away" | "five" ] }
sum      = product { ( "+" | "-" ) product }
product  = signed { ( "*" | "/" | "//" | "%" ) signed }
signed   = "-" signed | "spawn" post | "resume" post [ "giving" signed ] | "picture" text "of" post | power
power    = post [ "^" signed ]
post     = first { "(" [ expr { "," expr } ] ")" | "[" expr "]" | "." name }
first    = number | text | "true" | "false" | "flags" | name | code | "only" "(" [ flag { "," flag } ] ")" | "(" expr ")"
         | "[" [ expr ( ".." expr | { "," expr } ) ] "]" | "make" name [ "." name ] "(" [ name ":" expr { "," name ":" expr } ] ")"
"""


class Grammar:
    """The document's grammar as plain productions; those of { }, [ ] and ( ) have names of their own.

    A token is '"let"', or name, code, number, text, END.
    """

    def __init__(self, source):
        self.productions = {}
        self.words = source.split()
        self.at = 0
        while self.at < len(self.words):
            head = self.words[self.at]
            self.at += 2
            self.productions[head] = self.choices()

    def done(self):
        """A new production begins with a name and a = that isn't in quotes."""
        return self.at >= len(self.words) or self.words[self.at + 1:self.at + 2] == ["="]

    def choices(self):
        found = [self.row()]
        while not self.done() and self.words[self.at] == "|":
            self.at += 1
            found.append(self.row())
        return found

    def row(self):
        found = []
        while not self.done() and self.words[self.at] not in ("|", "}", "]", ")"):
            word = self.words[self.at]
            self.at += 1
            found.append(self.group(word) if word in ("{", "[", "(") else word)
        return tuple(found)

    def group(self, opening):
        head = f"{opening}{self.at}"
        rows = self.choices()
        self.at += 1
        if opening == "{":
            rows = [(head,) + row for row in rows]
        self.productions[head] = rows if opening == "(" else [()] + rows
        return head


class Oracle:
    """Which tokens may come behind others: by Earley's way, which takes any grammar as it stands.

    Its columns hold (head, row, how much of the row is passed, where the head began).
    """

    def __init__(self):
        self.productions = Grammar(GRAMMAR).productions
        self.empty = self.those_that_may_be_empty()
        self.columns = [self.filled([("whole", row, 0, 0) for row in self.productions["whole"]])]

    def those_that_may_be_empty(self):
        empty = set()
        grown = True
        while grown:
            grown = False
            for head, rows in self.productions.items():
                if head not in empty and any(all(part in empty for part in row) for row in rows):
                    empty.add(head)
                    grown = True
        return empty

    def filled(self, starting, columns=()):
        column = list(starting)
        seen = set(column)
        at = 0
        while at < len(column):
            for item in self.following(column[at], column, columns):
                if item not in seen:
                    seen.add(item)
                    column.append(item)
            at += 1
        return column

    def following(self, item, column, columns):
        head, row, passed, start = item
        if passed == len(row):
            # What began in this same column and is empty was passed when it was asked for.
            before = columns[start] if start < len(columns) else column
            return [(h, r, p + 1, s) for h, r, p, s in list(before) if r[p:p + 1] == (head,)]
        if row[passed] not in self.productions:
            return []
        asked = [(row[passed], other, 0, len(columns)) for other in self.productions[row[passed]]]
        if row[passed] in self.empty:
            asked.append((head, row, passed + 1, start))
        return asked

    def back_to(self, length):
        """Forgets all tokens but the first so many."""
        self.columns = self.columns[:length + 1]

    def push(self, token):
        moved = [(h, r, p + 1, s) for h, r, p, s in self.columns[-1] if r[p:p + 1] == (token,)]
        if moved == []:
            raise AssertionError(f"{token} may not come here")
        self.columns.append(self.filled(moved, self.columns))

    def allowed(self):
        """All tokens that may come next; END if the program may end."""
        parts = {row[passed] for head, row, passed, start in self.columns[-1] if passed < len(row)}
        return {part for part in parts if part not in self.productions}
