"""Trees: how one is put together from the left, and the bytes that it's told in."""


class Twig:
    """A node, by its kind, or parts that stand together, by the grammar's "@row", "@count" or "@set".

    A part is a list of bytes or a twig.
    """

    def __init__(self, form):
        self.form = form
        self.parts = []


class Growth:
    """The twigs that have begun and not ended, the outermost first."""

    def __init__(self):
        self.begun = [Twig("@row")]

    def begin(self, form):
        self.begun.append(Twig(form))

    def put(self, part):
        self.begun[-1].parts.append(part)

    def take(self):
        self.put(self.begun[-2].parts.pop())

    def finish(self):
        twig = self.begun.pop()
        if twig.form == "@set":
            self.put([set_byte(twig.parts)])
        else:
            self.put(twig)

    def grown(self):
        return self.begun[0]


def set_byte(bits):
    byte = 0
    for bit in bits:
        byte = byte | (1 << bit[0])
    return byte


def tree_bytes(twig):
    """The bytes of a twig and of all within it, by a loop: twigs may nest as deep as a text is long."""
    told = []
    parts = [twig]
    while len(parts) > 0:
        part = parts.pop()
        if isinstance(part, Twig):
            told.extend(head_bytes(part))
            parts.extend(part.parts[::-1])
        else:
            told.extend(part)
    return told


def count_nodes(twig):
    """How many nodes a twig and all within it are: those twigs that have a kind."""
    found = 0
    parts = [twig]
    while len(parts) > 0:
        part = parts.pop()
        if isinstance(part, Twig):
            found += 1 if isinstance(part.form, int) else 0
            parts.extend(part.parts)
    return found


def head_bytes(twig):
    if twig.form == "@row":
        return []
    if twig.form == "@count":
        return low_first(len(twig.parts), 4)
    return [twig.form]


def low_first(number, size):
    """The number in so many bytes, the lower first."""
    told = []
    for at in range(size):
        told.append((number >> (8 * at)) & 255)
    return told
