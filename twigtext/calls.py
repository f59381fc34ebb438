"""The calls: each takes a text, a list of bytes, and answers a list of whole numbers."""

from twigtext.depth import depth
from twigtext.parse import parse
from twigtext.refusals import Fault, Refused, TooDeep, TooLong
from twigtext.scan import scan
from twigtext.tree import tree_bytes

MOST_BYTES = 65536
MOST_DEPTH = 100


def tokens(text):
    """The text's tokens: how many, then of each its kind, where it begins, the place right behind it."""
    try:
        scanned = scan_allowed(text)
        refuse_fault(scanned)
    except Refused as e:
        return e.numbers
    answer = [0, len(scanned.found)]
    for token in scanned.found:
        answer.extend([token.kind, token.start, token.end])
    return answer


def read(text):
    """The text's tree: how many bytes, then the bytes."""
    try:
        tree = parse(text, scan_allowed(text))
    except Refused as e:
        return e.numbers
    told = tree_bytes(tree)
    return [0, len(told)] + told


def scan_allowed(text):
    """The text's tokens, and their fault if there is one, of a text neither too long nor too deep."""
    if len(text) > MOST_BYTES:
        raise TooLong()
    scanned = scan(text)
    if depth(scanned.found) > MOST_DEPTH:
        raise TooDeep()
    return scanned


def refuse_fault(scanned):
    if scanned.fault is not None:
        raise Fault(scanned.fault[0], scanned.fault[1])
