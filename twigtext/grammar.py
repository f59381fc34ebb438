"""The grammar of programs, and the tree that each of its rows leaves.

Of each part of a program: its choices, each with the token that it begins with ("" for any other token)
and a row of what then comes, from the left:
- a whole number: here a node of that kind begins; "@end" ends what was begun last;
- "@row", "@count", "@set": here parts begin that stand together; their count is put before them, or they
  are the numbers of a set's bits;
- "@take": the part that stood last before what was begun last becomes its first part;
- ("@turn", kind): what was begun last turns out to be a node of that kind;
- any other tuple: bytes that stand in the tree as they are;
- a part of a program in < >, or a token: NAME, CODE, NUMBER, TEXT, or the keyword or sign itself.

One token always tells which choice it is. Behind the tokens END stands, if the text has no fault.
"""

RULES = {
    "<program>": (
        ("", (0x90, "module", "NAME", "@count", "<uses>", "@end", "@count", "<declarations>", "@end", "@end")),
    ),
    "<uses>": (("use", ("use", "NAME", "<uses>")), ("", ())),

    "<declarations>": (("END", ()), ("", ("<declaration>", "<declarations>"))),
    "<declaration>": (
        ("let", (0x80, "<let>", "@end")),
        ("record", (0x81, "record", "NAME", "{", "@count", "<fields>", "@end", "}", "@end")),
        ("account", (0x82, "account", "NAME", "CODE", "@end")),
        ("fn", (
            0x83, "fn", "NAME", "<sort names>", "(", "@count", "<fields>", "@end", ")", "<result>", "<block>", "@end",
        )),
    ),
    "<let>": (("", ("let", "NAME", "<told sort>", "=", "<expression>")),),
    "<told sort>": ((":", (":", (1,), "<sort>")), ("", ((0,),))),
    "<sort names>": (("[", ("[", "@count", "NAME", "<more names>", "@end", "]")), ("", ("@count", "@end"))),
    "<more names>": ((",", (",", "NAME", "<more names>")), ("", ())),
    "<fields>": (("NAME", ("<field>", "<more fields>")), ("", ())),
    "<more fields>": ((",", (",", "<field>", "<more fields>")), ("", ())),
    "<field>": (("", ("@row", "NAME", ":", "<sort>", "@end")),),
    "<result>": (("->", ("->", (1,), "<sort>")), ("", ((0,),))),

    "<sort>": (
        ("whole", (0x01, "whole", "@end")),
        ("fraction", (0x02, "fraction", "@end")),
        ("decimal", (0x03, "decimal", "@end")),
        ("half", (0x04, "half", "@end")),
        ("single", (0x05, "single", "@end")),
        ("double", (0x06, "double", "@end")),
        ("extended", (0x07, "extended", "@end")),
        ("interval", (0x08, "interval", "@end")),
        ("truth", (0x09, "truth", "@end")),
        ("text", (0x0A, "text", "@end")),
        ("flags", (0x0B, "flags", "@end")),
        ("error", (0x0C, "error", "@end")),
        ("account", (0x0D, "account", "@end")),
        ("value", (0x0E, "value", "@end")),
        ("packed", (0x0F, "packed", "NUMBER", "@end")),
        ("list", (0x10, "list", "of", "<sort>", "@end")),
        ("fibre", (0x11, "fibre", "<of sort>", "@end")),
        ("fn", (0x12, "fn", "(", "@count", "<sorts>", "@end", ")", "<result>", "@end")),
        ("NAME", (0x13, "NAME", "<of a module>", "@end")),
    ),
    "<of sort>": (("of", ("of", (1,), "<sort>")), ("", ((0,),))),
    "<sorts>": ((")", ()), ("", ("<sort>", "<more sorts>"))),
    "<more sorts>": ((",", (",", "<sort>", "<more sorts>")), ("", ())),
    "<of a module>": ((".", (("@turn", 0x14), ".", "NAME")), ("", ())),

    "<block>": (("", ("@count", "{", "<statements>", "}", "@end")),),
    "<statements>": (("}", ()), ("", ("<statement>", "<statements>"))),
    "<statement>": (
        ("let", (0x60, "<let>", "@end")),
        ("NAME", ("<name>", "<chain>")),
        ("flags", (0x63, "flags", "=", "<expression>", "@end")),
        ("if", (0x64, "@count", "<branch>", "<more branches>", "@end")),
        ("while", (0x65, "while", "<expression>", "<block>", "@end")),
        ("for", (0x66, "for", "NAME", "in", "<expression>", "<to>", "<block>", "@end")),
        ("match", (0x67, "match", "<expression>", "{", "@count", "<cases>", "@end", "<else>", "}", "@end")),
        ("return", (0x68, "return", "<expression>", "@end")),
        ("leave", (0x69, "leave", "@end")),
        ("break", (0x6A, "break", "@end")),
        ("next", (0x6B, "next", "@end")),
        ("with", (0x6C, "with", "@count", "<mode>", "<more modes>", "@end", "<block>", "@end")),
        ("try", (0x6D, "try", "<block>", "<behind try>", "@end")),
        ("raise", (0x6E, "raise", "<expression>", "@end")),
        ("say", (0x6F, "say", "@count", "<expression>", "<more expressions>", "@end", "@end")),
        ("yield", (0x70, "yield", "<expression>", "<into>", "@end")),
        ("post", (
            0x71, "post", "<expression>", ":", "<expression>", "from", "<expression>", "<posted text>", "@end",
        )),
    ),
    # A chain that ends with a call is a statement already; one that doesn't must go on or be given a value.
    "<chain>": (
        ("(", ("<call>", "<called chain>")),
        ("[", ("<index>", "<chain>")),
        (".", ("<member>", "<chain>")),
        ("=", (0x61, "@take", "=", "<expression>", "@end")),
    ),
    "<called chain>": (
        ("(", ("<call>", "<called chain>")),
        ("[", ("<index>", "<chain>")),
        (".", ("<member>", "<chain>")),
        ("", (0x62, "@take", "@end")),
    ),
    # Only behind an else it's known whether a branch follows: so the branches' count is ended here.
    "<more branches>": (("else", ("else", "<behind else>")), ("", ("@end", (0,)))),
    "<behind else>": (("if", ("<branch>", "<more branches>")), ("", ("@end", (1,), "<block>"))),
    "<branch>": (("", ("@row", "if", "<expression>", "<block>", "@end")),),
    "<to>": (("to", ("to", (1,), "<expression>")), ("", ((0,),))),
    "<cases>": (("is", ("@row", "is", "<sort>", "NAME", "<block>", "@end", "<cases>")), ("", ())),
    "<else>": (("else", ("else", (1,), "<block>")), ("", ((0,),))),
    "<behind try>": (
        ("catch", ("catch", (1,), "NAME", "<block>", "<finally>")),
        ("finally", ((0,), "<finally>")),
    ),
    "<finally>": (("finally", ("finally", (1,), "<block>")), ("", ((0,),))),
    "<into>": (("into", ("into", (1,), "NAME")), ("", ((0,),))),
    "<posted text>": (("TEXT", ((1,), "TEXT")), ("", ((0,),))),
    "<more modes>": ((",", (",", "<mode>", "<more modes>")), ("", ())),
    "<mode>": (
        ("rounding", ("@row", "rounding", (0,), "<direction>", "@end")),
        ("precision", ("@row", "precision", (1,), "NUMBER", "@end")),
        ("trap", ("@row", "trap", (2,), "@set", "<flag>", "<trapped>", "@end", "@end")),
        ("flush", ("@row", "flush", (3,), "<flushed>", "@end")),
    ),
    "<direction>": (
        ("near", ("near", (0,))),
        ("down", ("down", (1,))),
        ("up", ("up", (2,))),
        ("cut", ("cut", (3,))),
    ),
    "<trapped>": (
        (",", ()),
        ("{", ()),
        ("", ("<flag>", "<trapped>")),
    ),
    "<flushed>": (
        ("in", ("in", (0,))),
        ("out", ("out", (1,))),
        ("both", ("both", (2,))),
    ),
    "<flag>": (
        ("invalid", ("invalid", (0,))),
        ("small", ("small", (1,))),
        ("zero", ("zero", (2,))),
        ("overflow", ("overflow", (3,))),
        ("underflow", ("underflow", (4,))),
        ("inexact", ("inexact", (5,))),
        ("stack", ("stack", (6,))),
    ),

    "<expressions>": ((")", ()), ("", ("<expression>", "<more expressions>"))),
    "<more expressions>": ((",", (",", "<expression>", "<more expressions>")), ("", ())),
    "<expression>": (
        ("if", (0x33, "if", "<expression>", "then", "<expression>", "else", "<expression>", "@end")),
        ("", ("<both>", "<more or>")),
    ),
    "<more or>": (("or", (0x40, "@take", "or", "<both>", "@end", "<more or>")), ("", ())),
    "<both>": (("", ("<negated>", "<more and>")),),
    "<more and>": (("and", (0x41, "@take", "and", "<negated>", "@end", "<more and>")), ("", ())),
    "<negated>": (("not", (0x2F, "not", "<negated>", "@end")), ("", ("<cast>", "<compared>"))),
    "<compared>": (
        ("==", (0x42, "@take", "==", "<cast>", "@end")),
        ("!=", (0x43, "@take", "!=", "<cast>", "@end")),
        ("<", (0x44, "@take", "<", "<cast>", "@end")),
        ("<=", (0x45, "@take", "<=", "<cast>", "@end")),
        (">", (0x46, "@take", ">", "<cast>", "@end")),
        (">=", (0x47, "@take", ">=", "<cast>", "@end")),
        ("", ()),
    ),
    "<cast>": (("", ("<sum>", "<more as>")),),
    "<more as>": (
        ("as", (0x34, "@take", "as", "<sort>", "<digits>", "<rounding>", "@end", "<more as>")),
        ("", ()),
    ),
    "<digits>": (("NUMBER", ((1,), "NUMBER")), ("", ((0,),))),
    "<rounding>": (
        ("near", ("near", (1,))),
        ("down", ("down", (2,))),
        ("up", ("up", (3,))),
        ("cut", ("cut", (4,))),
        ("nearaway", ("nearaway", (5,))),
        ("nearcut", ("nearcut", (6,))),
        ("away", ("away", (7,))),
        ("five", ("five", (8,))),
        ("", ((0,),)),
    ),
    "<sum>": (("", ("<product>", "<more sum>")),),
    "<more sum>": (
        ("+", (0x48, "@take", "+", "<product>", "@end", "<more sum>")),
        ("-", (0x49, "@take", "-", "<product>", "@end", "<more sum>")),
        ("", ()),
    ),
    "<product>": (("", ("<signed>", "<more product>")),),
    "<more product>": (
        ("*", (0x4A, "@take", "*", "<signed>", "@end", "<more product>")),
        ("/", (0x4B, "@take", "/", "<signed>", "@end", "<more product>")),
        ("//", (0x4C, "@take", "//", "<signed>", "@end", "<more product>")),
        ("percent", (0x4D, "@take", "percent", "<signed>", "@end", "<more product>")),
        ("", ()),
    ),
    "<signed>": (
        ("-", (0x2E, "-", "<signed>", "@end")),
        ("spawn", (0x30, "spawn", "<post>", "@end")),
        ("resume", (0x31, "resume", "<post>", "<giving>", "@end")),
        ("picture", (0x32, "picture", "TEXT", "of", "<post>", "@end")),
        ("", ("<post>", "<power>")),
    ),
    "<giving>": (("giving", ("giving", (1,), "<signed>")), ("", ((0,),))),
    "<power>": (("^", (0x4E, "@take", "^", "<signed>", "@end")), ("", ())),
    "<post>": (("", ("<first>", "<more post>")),),
    "<more post>": (
        ("(", ("<call>", "<more post>")),
        ("[", ("<index>", "<more post>")),
        (".", ("<member>", "<more post>")),
        ("", ()),
    ),
    "<call>": (("", (0x2B, "@take", "(", "@count", "<expressions>", "@end", ")", "@end")),),
    "<index>": (("", (0x2C, "@take", "[", "<expression>", "]", "@end")),),
    "<member>": (("", (0x2D, "@take", ".", "NAME", "@end")),),
    "<name>": (("", (0x25, "NAME", "@end")),),
    "<first>": (
        ("NUMBER", (0x20, "NUMBER", "@end")),
        ("TEXT", (0x21, "TEXT", "@end")),
        ("true", (0x22, "true", "@end")),
        ("false", (0x23, "false", "@end")),
        ("flags", (0x24, "flags", "@end")),
        ("NAME", ("<name>",)),
        ("CODE", (0x26, "CODE", "@end")),
        ("only", (0x27, "only", "(", "@set", "<flags>", "@end", ")", "@end")),
        # Parentheses are no part of the expression, but of what takes it: so a row that is no node begins with them.
        ("(", ("@row", "(", "<expression>", ")", "@end")),
        ("[", (0x28, "[", "<listed>", "]", "@end")),
        ("make", (0x2A, "make", "NAME", "<made>", "(", "@count", "<settings>", "@end", ")", "@end")),
    ),
    "<flags>": ((")", ()), ("", ("<flag>", "<more flags>"))),
    "<more flags>": ((",", (",", "<flag>", "<more flags>")), ("", ())),
    "<listed>": (("]", ("@count", "@end")), ("", ("<expression>", "<more listed>"))),
    "<more listed>": (
        ("..", (("@turn", 0x29), "..", "<expression>")),
        ("", ("@count", "@take", "<more expressions>", "@end")),
    ),
    # The byte that tells of a module stands before the first name, and only behind that it's known.
    "<made>": ((".", ("@row", (1,), "@take", ".", "NAME", "@end")), ("", ("@row", (0,), "@take", "@end"))),
    "<settings>": (("NAME", ("<setting>", "<more settings>")), ("", ())),
    "<more settings>": ((",", (",", "<setting>", "<more settings>")), ("", ())),
    "<setting>": (("", ("@row", "NAME", ":", "<expression>", "@end")),),
}


def rows_by_token():
    """Each row, back to front, by the part of a program and the token that it begins with."""
    rows = {}
    for part in RULES:
        for look, row in RULES[part]:
            rows[(part, look)] = row[::-1]
    return rows
