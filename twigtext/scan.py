"""Tokens: a text is cut into them from the left, up to its end or its first fault."""

from twigtext.letters import byte_at, in_code, in_word, is_capital, is_digit, is_printable, is_small, run_end
from twigtext.numerals import is_right, numeral_at
from twigtext.refusals import Fault

KEYWORD = 0
NAME = 1
CODE = 2
NUMBER = 3
TEXT = 4
SIGN = 5

MOST_NAME_BYTES = 31
LEAST_CODE_BYTES = 2
MOST_CODE_BYTES = 8
MOST_ITEMS = 1024

LINE_END = 10
BLANK = 32
QUOTE = 34
HASH = 35
SEMICOLON = 59
BACKSLASH = 92
SMALL_N = 110

LETTERS = "abcdefghijklmnopqrstuvwxyz"

KEYWORDS = {
    "account": True, "and": True, "as": True, "away": True, "both": True, "break": True, "catch": True,
    "clear": True, "cut": True, "decimal": True, "double": True, "down": True, "else": True, "error": True,
    "extended": True, "false": True, "fibre": True, "finally": True, "five": True, "flags": True,
    "flush": True, "fn": True, "for": True, "fraction": True, "from": True, "giving": True, "half": True,
    "if": True, "in": True, "inexact": True, "interval": True, "into": True, "invalid": True, "is": True,
    "leave": True, "let": True, "list": True, "make": True, "match": True, "module": True, "near": True,
    "nearaway": True, "nearcut": True, "next": True, "not": True, "of": True, "only": True, "or": True,
    "out": True, "overflow": True, "packed": True, "picture": True, "post": True, "precision": True,
    "raise": True, "record": True, "resume": True, "return": True, "rounding": True, "say": True,
    "single": True, "small": True, "spawn": True, "stack": True, "text": True, "then": True, "to": True,
    "trap": True, "true": True, "truth": True, "try": True, "underflow": True, "up": True, "use": True,
    "value": True, "while": True, "whole": True, "with": True, "yield": True, "zero": True,
}

# The sign of a division's rest goes by a word: the form of this code keeps it out of texts.
SIGNS_OF_ONE = {
    0x28: "(", 0x29: ")", 0x5B: "[", 0x5D: "]", 0x7B: "{", 0x7D: "}", 0x2C: ",", 0x3A: ":", 0x2E: ".",
    0x3D: "=", 0x3C: "<", 0x3E: ">", 0x2B: "+", 0x2D: "-", 0x2A: "*", 0x2F: "/", 0x25: "percent", 0x5E: "^",
}

# By both bytes, the first one 256 times.
SIGNS_OF_TWO = {
    0x2E2E: "..", 0x2D3E: "->", 0x3D3D: "==", 0x213D: "!=", 0x3C3D: "<=", 0x3E3D: ">=", 0x2F2F: "//",
}


class Token:
    """A token: its kind, how the grammar knows it, where it begins, the place right behind it."""

    def __init__(self, kind, look, start, end):
        self.kind = kind
        self.look = look
        self.start = start
        self.end = end


class Scanned:
    """A text's tokens as far as they have no fault; the fault's rule and place, or None."""

    def __init__(self, found, fault):
        self.found = found
        self.fault = fault


def scan(text):
    found = []
    try:
        place = token_place(text, 0)
        while place < len(text):
            token = token_at(text, place)
            found.append(token)
            place = token_place(text, token.end)
    except Fault as e:
        return Scanned(found, (e.rule, e.place))
    return Scanned(found, None)


def token_place(text, place):
    """Where the next token begins, or the text's end."""
    while place < len(text):
        if text[place] == HASH:
            # A byte that may not be in a comment can't begin a token either: it's left for that to be told.
            place = run_end(text, place, is_printable)
        elif text[place] in (BLANK, LINE_END, SEMICOLON):
            place += 1
        else:
            return place
    return place


def token_at(text, place):
    byte = text[place]
    if is_small(byte):
        return word_at(text, place)
    if is_capital(byte):
        return code_at(text, place)
    if is_digit(byte):
        return number_at(text, place)
    if byte == QUOTE:
        return text_at(text, place)
    return sign_at(text, place)


def word_at(text, place):
    end = run_end(text, place, in_word)
    word = spelled(text[place:end])
    if word in KEYWORDS:
        return Token(KEYWORD, word, place, end)
    if end - place > MOST_NAME_BYTES:
        raise Fault(1, place)
    return Token(NAME, "NAME", place, end)


def spelled(word):
    """The word's letters; nothing if it has other bytes too, as no keyword has."""
    if all([is_small(byte) for byte in word]):
        return "".join([LETTERS[byte - 97] for byte in word])
    return ""


def code_at(text, place):
    end = run_end(text, place, in_code)
    if LEAST_CODE_BYTES <= end - place <= MOST_CODE_BYTES:
        return Token(CODE, "CODE", place, end)
    raise Fault(1, place)


def number_at(text, place):
    numeral = numeral_at(text, place)
    if is_right(numeral):
        return Token(NUMBER, "NUMBER", place, place + numeral.size())
    raise Fault(1, place)


def text_at(text, place):
    items = 0
    here = place + 1
    while byte_at(text, here) != QUOTE:
        # A text that has all its items may only end: so this is asked ahead of what the item is.
        if items == MOST_ITEMS and here < len(text):
            raise Fault(1, here)
        here = item_end(text, here)
        items += 1
    return Token(TEXT, "TEXT", place, here + 1)


def item_end(text, place):
    byte = byte_at(text, place)
    width = 2 if byte == BACKSLASH else 1
    if place + width > len(text):
        raise Fault(3, len(text))
    if width == 1 and not is_printable(byte):
        raise Fault(1, place)
    if width == 2 and text[place + 1] not in (QUOTE, BACKSLASH, SMALL_N):
        raise Fault(1, place)
    return place + width


def sign_at(text, place):
    pair = text[place] * 256 + max(byte_at(text, place + 1), 0)
    if pair in SIGNS_OF_TWO:
        return Token(SIGN, SIGNS_OF_TWO[pair], place, place + 2)
    if text[place] in SIGNS_OF_ONE:
        return Token(SIGN, SIGNS_OF_ONE[text[place]], place, place + 1)
    raise Fault(1, place)
