"""Writing: a tree's bytes are gone through from the left and written by the forms.

What a form tells stands in the order of the tree's bytes. So what is still to come is kept in a list, not
in calls within one another: a tree may nest deeper than those may.
"""

from twigtext.forms import flag_words, node_row, part_row
from twigtext.leaves import text_items
from twigtext.scan import BLANK, QUOTE

MOST_BLANKS = 32


class Writer:
    """Where the writing of a tree stands: how many bytes are passed, what must come, what is written.

    And how many blocks, or rows of cases, it's in.
    """

    def __init__(self, tree):
        self.tree = tree
        self.passed = 0
        self.coming = [0]
        self.told = []
        self.blocks = 0

    def run(self):
        while len(self.coming) > 0:
            self.step(self.coming.pop())
        return self.told

    def step(self, symbol):
        if isinstance(symbol, int):
            self.expect(node_row(self.pass_number(1), symbol))
        elif isinstance(symbol, tuple):
            self.tell_by_bytes(symbol)
        elif symbol.startswith("<"):
            self.expect(part_row(symbol))
        elif symbol in ("NAME", "CODE", "NUMBER"):
            self.told.extend(self.pass_bytes(self.pass_number(1)))
        elif symbol == "TEXT":
            self.told.extend([QUOTE] + text_items(self.pass_bytes(self.pass_number(2))) + [QUOTE])
        elif symbol in ("@begin", "@line", "@end"):
            self.tell_block(symbol)
        else:
            self.tell(symbol)

    def expect(self, row):
        """The row comes before all that was to come: the list's last is the first to come."""
        self.coming.extend(row[::-1])

    def tell(self, words):
        self.told.extend([ord(letter) for letter in words])

    def tell_by_bytes(self, symbol):
        """What the tree's next bytes ask for, by the symbol's first word."""
        if symbol[0] == "@byte":
            self.expect(symbol[1 + self.pass_number(1)])
        elif symbol[0] == "@each":
            # What stands between two stands before each but the first.
            self.expect((symbol[1:] * self.pass_number(4))[1:])
        elif symbol[0] == "@empty":
            self.tell_empty(symbol[1], symbol[2], symbol[3])
        elif symbol[0] == "@set":
            self.tell(symbol[1].join(flag_words(self.pass_number(1))))
        else:
            self.told.append(symbol[1])

    def tell_empty(self, size, empty, filled):
        if self.tree[self.passed:self.passed + size] == [0] * size:
            self.passed += size
            self.expect(empty)
        else:
            self.expect(filled)

    def tell_block(self, symbol):
        if symbol == "@begin":
            self.blocks += 1
            self.tell("{\n")
        elif symbol == "@line":
            self.tell_blanks()
        else:
            self.blocks -= 1
            self.tell_blanks()
            self.tell("}")

    def tell_blanks(self):
        self.told.extend([BLANK] * min(2 * self.blocks, MOST_BLANKS))

    def pass_number(self, size):
        """The number in so many bytes, the lower first."""
        number = 0
        for at, byte in enumerate(self.pass_bytes(size)):
            number += byte << (8 * at)
        return number

    def pass_bytes(self, size):
        start = self.passed
        self.passed += size
        return self.tree[start:self.passed]


def written(tree):
    """The text of a tree that is told in bytes."""
    return Writer(tree).run()
