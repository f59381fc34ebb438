"""The forms in which trees are written.

Of each kind of node: a row of what is written, from the left, while the tree's bytes behind the kind are
passed:
- a whole number: a node, which is written within parentheses if its own level is below that number; only
  expressions have a level;
- NAME, CODE, NUMBER, TEXT: such a leaf;
- a part of forms in < >, which is told in PARTS;
- ("@byte", rows): a byte, and by it the first, the second .. of the rows: so an empty one, then what a 1 tells;
- ("@each", between, row): a count, and the row so many times;
- ("@empty", size, row, row): the first row if so many bytes are 0, which then are passed, else the second;
- ("@set", between): a set's byte, and the words of its bits;
- ("@put", byte): that byte;
- "@begin", "@line", "@end": the beginning of a block, a line's blanks in it, its end;
- any other text: as it stands.
"""

FLAGS = ("invalid", "small", "zero", "overflow", "underflow", "inexact", "stack")

# The own level and the row.
EXPRESSIONS = {
    0x33: (0, ("if ", 0, " then ", 0, " else ", 0)),
    0x40: (1, (1, " or ", 2)),
    0x41: (2, (2, " and ", 3)),
    0x2F: (3, ("not ", 3)),
    0x42: (4, (5, " == ", 5)),
    0x43: (4, (5, " != ", 5)),
    0x44: (4, (5, " < ", 5)),
    0x45: (4, (5, " <= ", 5)),
    0x46: (4, (5, " > ", 5)),
    0x47: (4, (5, " >= ", 5)),
    0x34: (5, (5, " as ", "<sort>", ("@byte", (), (" ", "NUMBER")), "<rounding>")),
    0x48: (6, (6, " + ", 7)),
    0x49: (6, (6, " - ", 7)),
    0x4A: (7, (7, " * ", 8)),
    0x4B: (7, (7, " / ", 8)),
    0x4C: (7, (7, " // ", 8)),
    # The form of this code keeps the sign of a division's rest out of texts.
    0x4D: (7, (7, " ", ("@put", 0x25), " ", 8)),
    0x2E: (8, ("-", 8)),
    0x30: (8, ("spawn ", 10)),
    0x31: (8, ("resume ", 10, ("@byte", (), (" giving ", 8)))),
    0x32: (8, ("picture ", "TEXT", " of ", 10)),
    0x4E: (9, (10, " ^ ", 8)),
    0x2B: (10, (10, "(", "<expressions>", ")")),
    0x2C: (10, (10, "[", 0, "]")),
    0x2D: (10, (10, ".", "NAME")),
    0x28: (11, ("[", "<expressions>", "]")),
    0x29: (11, ("[", 0, " .. ", 0, "]")),
    0x2A: (11, ("make ", ("@byte", (), ("NAME", ".")), "NAME", "(", ("@each", ", ", "NAME", ": ", 0), ")")),
    0x27: (11, ("only(", ("@set", ", "), ")")),
    0x20: (11, ("NUMBER",)),
    0x21: (11, ("TEXT",)),
    0x22: (11, ("true",)),
    0x23: (11, ("false",)),
    0x24: (11, ("flags",)),
    0x25: (11, ("NAME",)),
    0x26: (11, ("CODE",)),
}

OTHERS = {
    0x01: ("whole",),
    0x02: ("fraction",),
    0x03: ("decimal",),
    0x04: ("half",),
    0x05: ("single",),
    0x06: ("double",),
    0x07: ("extended",),
    0x08: ("interval",),
    0x09: ("truth",),
    0x0A: ("text",),
    0x0B: ("flags",),
    0x0C: ("error",),
    0x0D: ("account",),
    0x0E: ("value",),
    0x0F: ("packed ", "NUMBER"),
    0x10: ("list of ", "<sort>"),
    0x11: ("fibre", ("@byte", (), (" of ", "<sort>"))),
    0x12: ("fn(", ("@each", ", ", "<sort>"), ")", "<result>"),
    0x13: ("NAME",),
    0x14: ("NAME", ".", "NAME"),

    0x60: ("<let>",),
    0x61: (10, " = ", 0),
    0x62: (10,),
    0x63: ("flags = ", 0),
    0x64: (("@each", " else ", "if ", 0, " ", "<block>"), ("@byte", (), (" else ", "<block>"))),
    0x65: ("while ", 0, " ", "<block>"),
    0x66: ("for ", "NAME", " in ", 0, ("@byte", (), (" to ", 0)), " ", "<block>"),
    0x67: ("match ", 0, " ", "<cases>"),
    0x68: ("return ", 0),
    0x69: ("leave",),
    0x6A: ("break",),
    0x6B: ("next",),
    0x6C: ("with ", ("@each", ", ", "<mode>"), " ", "<block>"),
    0x6D: (
        "try ", "<block>",
        ("@byte", (), (" catch ", "NAME", " ", "<block>")),
        ("@byte", (), (" finally ", "<block>")),
    ),
    0x6E: ("raise ", 0),
    0x6F: ("say ", "<expressions>"),
    0x70: ("yield ", 0, ("@byte", (), (" into ", "NAME"))),
    0x71: ("post ", 0, ": ", 0, " from ", 0, ("@byte", (), (" ", "TEXT"))),

    0x80: ("<let>",),
    0x81: ("record ", "NAME", ("@empty", 4, (" {}",), (" { ", "<fields>", " }"))),
    0x82: ("account ", "NAME", " ", "CODE"),
    0x83: (
        "fn ", "NAME", ("@empty", 4, (), ("[", ("@each", ", ", "NAME"), "]")),
        "(", "<fields>", ")", "<result>", " ", "<block>",
    ),

    0x90: ("module ", "NAME", "\n", ("@each", "", "use ", "NAME", "\n"), ("@each", "", "\n", 0, "\n")),
}

PARTS = {
    "<sort>": (0,),
    "<result>": (("@byte", (), (" -> ", "<sort>")),),
    "<let>": ("let ", "NAME", ("@byte", (), (": ", "<sort>")), " = ", 0),
    "<fields>": (("@each", ", ", "NAME", ": ", "<sort>"),),
    "<expressions>": (("@each", ", ", 0),),
    "<rounding>": ((
        "@byte", (), (" near",), (" down",), (" up",), (" cut",), (" nearaway",), (" nearcut",), (" away",), (" five",),
    ),),
    "<mode>": ((
        "@byte",
        ("rounding ", ("@byte", ("near",), ("down",), ("up",), ("cut",))),
        ("precision ", "NUMBER"),
        ("trap ", ("@set", " ")),
        ("flush ", ("@byte", ("in",), ("out",), ("both",))),
    ),),
    "<block>": (("@empty", 4, ("{}",), ("@begin", ("@each", "", "@line", 0, "\n"), "@end")),),
    # Nothing is in it if neither the count nor the byte that tells of an else is above 0.
    "<cases>": ((
        "@empty", 5, ("{}",), (
            "@begin",
            ("@each", "", "@line", "is ", "<sort>", " ", "NAME", " ", "<block>", "\n"),
            ("@byte", (), ("@line", "else ", "<block>", "\n")),
            "@end",
        ),
    ),),
}


def node_row(kind, level):
    """What is written of a node of that kind where a node of that level, or a higher one, is asked for."""
    if kind in OTHERS:
        return OTHERS[kind]
    row = EXPRESSIONS[kind][1]
    if EXPRESSIONS[kind][0] < level:
        return ("(",) + row + (")",)
    return row


def part_row(part):
    return PARTS[part]


def flag_words(held):
    """The words of a set's bits, the lowest first."""
    return [word for bit, word in enumerate(FLAGS) if (held >> bit) & 1 == 1]
