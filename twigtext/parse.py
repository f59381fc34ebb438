"""Programs: a text's tokens are read by the grammar, one by one, into a tree.

What is still to come is kept in a list, not in calls within one another: a program may nest deeper
than those may.
"""

from twigtext.grammar import rows_by_token
from twigtext.leaves import leaf_bytes
from twigtext.refusals import Fault
from twigtext.tree import Growth


class Reader:
    """Where the reading of a text stands: how many tokens are passed, what must come, what has grown."""

    def __init__(self, text, scanned):
        self.text = text
        self.scanned = scanned
        self.passed = 0
        self.rows = rows_by_token()
        self.coming = ["<program>"]
        self.growth = Growth()

    def ahead(self):
        """What the grammar knows the next token by."""
        if self.passed < len(self.scanned.found):
            return self.scanned.found[self.passed].look
        if self.scanned.fault is None:
            return "END"
        return "FAULT"

    def run(self):
        while len(self.coming) > 0:
            self.step(self.coming.pop())
        return self.growth.grown()

    def step(self, symbol):
        if isinstance(symbol, int) or symbol in ("@row", "@count", "@set"):
            self.growth.begin(symbol, self.passed)
        elif isinstance(symbol, tuple):
            self.grow(symbol)
        elif symbol == "@take":
            self.growth.take()
        elif symbol == "@end":
            self.growth.finish(self.passed)
        else:
            self.meet(symbol, self.ahead())

    def grow(self, symbol):
        if symbol[0] == "@turn":
            self.growth.turn(symbol[1])
        else:
            self.growth.put(list(symbol))

    def meet(self, symbol, look):
        """The symbol is the token itself, or a part of a program that may begin with it."""
        if symbol == look:
            self.pass_token()
        elif (symbol, look) in self.rows:
            self.coming.extend(self.rows[(symbol, look)])
        elif (symbol, "") in self.rows:
            self.coming.extend(self.rows[(symbol, "")])
        else:
            self.refuse()

    def pass_token(self):
        leaf = leaf_bytes(self.text, self.scanned.found[self.passed])
        if leaf != []:
            self.growth.put(leaf)
        self.passed += 1

    def refuse(self):
        if self.passed < len(self.scanned.found):
            raise Fault(2, self.scanned.found[self.passed].start)
        if self.scanned.fault is None:
            raise Fault(3, len(self.text))
        raise Fault(self.scanned.fault[0], self.scanned.fault[1])


def parse(text, scanned):
    """The tree of a text that was scanned, or the fault that comes first from the left."""
    return Reader(text, scanned).run()
