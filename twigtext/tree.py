"""Trees: how one is put together from the left, the bytes that it's told in, and its nodes."""

from twigtext.refusals import NoNode


class Twig:
    """A node, by its kind, or parts that stand together, by the grammar's "@row", "@count" or "@set".

    A part is a list of bytes or a twig. A twig's tokens go from its first one up to the one behind its last;
    both are told by how many tokens stand before them.
    """

    def __init__(self, form, first):
        self.form = form
        self.parts = []
        self.first = first
        self.behind = first


class Growth:
    """The twigs that have begun and not ended, the outermost first."""

    def __init__(self):
        self.begun = [Twig("@row", 0)]

    def begin(self, form, passed):
        """Here, behind so many tokens, a twig begins."""
        self.begun.append(Twig(form, passed))

    def turn(self, kind):
        """What was begun last turns out to be a node of that kind."""
        twig = self.begun[-1]
        twig.form = kind

    def put(self, part):
        self.begun[-1].parts.append(part)

    def take(self):
        """The part that stood last before what was begun last becomes its first part: so it begins with it."""
        twig = self.begun[-1]
        part = self.begun[-2].parts.pop()
        if isinstance(part, Twig):
            twig.first = part.first
        twig.parts.append(part)

    def finish(self, passed):
        """Here, behind so many tokens, ends what was begun last."""
        twig = self.begun.pop()
        twig.behind = passed
        if twig.form == "@set":
            self.put([set_byte(twig.parts)])
        else:
            self.put(twig)

    def grown(self):
        return self.begun[0]


def set_byte(bits):
    byte = 0
    for bit in bits:
        byte = byte | (1 << bit[0])
    return byte


def tree_bytes(twig):
    """The bytes of a twig and of all within it, by a loop: twigs may nest as deep as a text is long."""
    told = []
    parts = [twig]
    while len(parts) > 0:
        part = parts.pop()
        if isinstance(part, Twig):
            told.extend(head_bytes(part))
            parts.extend(part.parts[::-1])
        else:
            told.extend(part)
    return told


def nodes_within(twig):
    """The twig and all twigs within it that are nodes, as those that have a kind are, in the tree's order."""
    found = []
    parts = [twig]
    while len(parts) > 0:
        part = parts.pop()
        if isinstance(part, Twig):
            if isinstance(part.form, int):
                found.append(part)
            parts.extend(part.parts[::-1])
    return found


def node_within(twig, k):
    """The node of the twig before which there are k others in the tree's order."""
    found = nodes_within(twig)
    if k >= len(found):
        raise NoNode()
    return found[k]


def kinds_within(twig):
    """By each kind of which the twig has nodes: how many."""
    found = {}
    for node in nodes_within(twig):
        found[node.form] = found.get(node.form, 0) + 1
    return found


def head_bytes(twig):
    if twig.form == "@row":
        return []
    if twig.form == "@count":
        return low_first(len(twig.parts), 4)
    return [twig.form]


def low_first(number, size):
    """The number in so many bytes, the lower first."""
    told = []
    for at in range(size):
        told.append((number >> (8 * at)) & 255)
    return told
