"""Leaves: the bytes by which names, codes, numbers and texts stand in a tree, and texts in a text again."""

from twigtext.scan import BACKSLASH, KEYWORD, LINE_END, NAME, QUOTE, SIGN, SMALL_N, TEXT
from twigtext.tree import low_first


def leaf_bytes(text, token):
    """What the token leaves in the tree: nothing if it's a keyword or sign."""
    if token.kind in (KEYWORD, SIGN):
        return []
    if token.kind == TEXT:
        held = item_bytes(text[token.start + 1:token.end - 1])
        return low_first(len(held), 2) + held
    return [token.end - token.start] + text[token.start:token.end]


def different_names(text, found):
    """The names among the tokens, each once, rising byte by byte."""
    return sorted(set([tuple(text[token.start:token.end]) for token in found if token.kind == NAME]))


def item_bytes(items):
    """The bytes that the items between a text's quotes stand for."""
    held = []
    place = 0
    while place < len(items):
        if items[place] == BACKSLASH:
            place += 1
            held.append(LINE_END if items[place] == SMALL_N else items[place])
        else:
            held.append(items[place])
        place += 1
    return held


def text_items(held):
    """The items by which these bytes stand between a text's quotes."""
    items = []
    for byte in held:
        if byte == LINE_END:
            items.extend([BACKSLASH, SMALL_N])
        elif byte in (BACKSLASH, QUOTE):
            items.extend([BACKSLASH, byte])
        else:
            items.append(byte)
    return items
