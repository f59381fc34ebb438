"""Depth: how deep a text's tokens nest, told without reading them as a program."""

OPENING = ("(", "[", "{")
CLOSING = (")", "]", "}")

RISING = {
    "-": True, "+": True, "*": True, "/": True, "//": True, "percent": True, "^": True, "==": True, "!=": True,
    "<": True, "<=": True, ">": True, ">=": True, "->": True, ".": True,
    "not": True, "or": True, "and": True, "as": True, "of": True, "then": True, "spawn": True,
    "resume": True, "giving": True, "picture": True,
}

CLEARING = {
    ",": True, "=": True, ":": True,
    "let": True, "fn": True, "record": True, "account": True, "use": True, "return": True, "raise": True,
    "say": True, "yield": True, "post": True, "from": True, "match": True, "is": True, "while": True,
    "for": True, "in": True, "to": True, "with": True, "try": True, "catch": True,
}


def depth(found):
    """The greatest that the numbers and how many they are less 1 come to behind one of the tokens."""
    numbers = [0]
    together = 0
    greatest = 0
    for token in found:
        together += growth(numbers, token.look)
        greatest = max(greatest, together)
    return greatest


def growth(numbers, look):
    """Carries the numbers over a token; by how much they and their count have grown.

    The document's first number is the last one here.
    """
    if look in OPENING:
        numbers.append(0)
        return 1
    if look in CLOSING:
        return growth_by_closing(numbers, look)
    if look in RISING:
        numbers[-1] += 1
        return 1
    if look in CLEARING:
        return growth_by_clearing(numbers)
    return 0


def growth_by_closing(numbers, look):
    grown = 0 - numbers.pop()
    if numbers == []:
        numbers.append(0)
    else:
        grown -= 1
    if look == "}":
        return grown + growth_by_clearing(numbers)
    numbers[-1] += 1
    return grown + 1


def growth_by_clearing(numbers):
    grown = 0 - numbers[-1]
    numbers[-1] = 0
    return grown
