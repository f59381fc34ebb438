"""The calls: each takes a text, a list of bytes, or two of them, and answers a list of whole numbers."""

from twigtext.depth import depth
from twigtext.leaves import different_names
from twigtext.parse import parse
from twigtext.refusals import Fault, Refused, TooDeep, TooLong
from twigtext.scan import scan
from twigtext.tree import kinds_within, node_within, nodes_within, tree_bytes
from twigtext.writing import written

MOST_BYTES = 65536
MOST_DEPTH = 100


def tokens(text):
    """The text's tokens: how many, then of each its kind, where it begins, the place right behind it."""
    try:
        scanned = scan_allowed(text)
        refuse_fault(scanned)
    except Refused as e:
        return e.numbers
    answer = [0, len(scanned.found)]
    for token in scanned.found:
        answer.extend([token.kind, token.start, token.end])
    return answer


def read(text):
    """The text's tree: how many bytes, then the bytes."""
    try:
        told = tree_bytes(parse_allowed(text))
    except Refused as e:
        return e.numbers
    return [0, len(told)] + told


def write(text):
    """The text that the text's tree has: how many bytes, then the bytes."""
    try:
        told = written(tree_bytes(parse_allowed(text)))
    except Refused as e:
        return e.numbers
    return [0, len(told)] + told


def nodes(text):
    """How many nodes the text's tree has."""
    try:
        tree = parse_allowed(text)
    except Refused as e:
        return e.numbers
    return [0, len(nodes_within(tree))]


def at(k, text):
    """Node k of the text's tree: its kind, where its tokens begin, the place right behind them, its nodes."""
    try:
        scanned = scan_allowed(text)
        node = node_within(parse(text, scanned), k)
    except Refused as e:
        return e.numbers
    start = scanned.found[node.first].start
    end = scanned.found[node.behind - 1].end
    return [0, node.form, start, end, len(nodes_within(node))]


def kinds(text):
    """The kinds of which the text's tree has nodes: how many, then of each the kind and how many nodes."""
    try:
        found = kinds_within(parse_allowed(text))
    except Refused as e:
        return e.numbers
    answer = [0, len(found)]
    for kind in sorted(found):
        answer.extend([kind, found[kind]])
    return answer


def names(text):
    """The different names in the text's tree, rising: how many, then of each how many bytes, then the bytes."""
    try:
        scanned = scan_allowed(text)
        # Each name among a program's tokens stands in its tree: so all that is asked is whether it's a program.
        parse(text, scanned)
    except Refused as e:
        return e.numbers
    found = different_names(text, scanned.found)
    answer = [0, len(found)]
    for name in found:
        answer.append(len(name))
        answer.extend(name)
    return answer


def same(text, other):
    """1 if both texts have one tree, 0 if not."""
    try:
        refuse_long(text)
        refuse_long(other)
        scanned = scan_shallow(text)
        scanned_other = scan_shallow(other)
        tree = tree_bytes(parse(text, scanned))
        other_tree = tree_bytes(parse(other, scanned_other))
    except Refused as e:
        return e.numbers
    return [0, 1 if tree == other_tree else 0]


def parse_allowed(text):
    """The tree of a text that isn't refused."""
    return parse(text, scan_allowed(text))


def scan_allowed(text):
    """The text's tokens, and their fault if there is one, of a text neither too long nor too deep."""
    refuse_long(text)
    return scan_shallow(text)


def refuse_long(text):
    if len(text) > MOST_BYTES:
        raise TooLong()


def scan_shallow(text):
    """The text's tokens, and their fault if there is one, of a text that isn't too deep."""
    scanned = scan(text)
    if depth(scanned.found) > MOST_DEPTH:
        raise TooDeep()
    return scanned


def refuse_fault(scanned):
    if scanned.fault is not None:
        raise Fault(scanned.fault[0], scanned.fault[1])
