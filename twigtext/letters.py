"""Which bytes are letters, digits and the like, and how far a run of such goes."""


def is_small(byte):
    return 97 <= byte <= 122


def is_capital(byte):
    return 65 <= byte <= 90


def is_digit(byte):
    return 48 <= byte <= 57


def is_printable(byte):
    return 32 <= byte <= 126


def in_word(byte):
    return is_small(byte) or is_digit(byte) or byte == 95


def in_code(byte):
    return is_capital(byte) or is_digit(byte)


def in_mark(byte):
    return in_word(byte) or is_capital(byte)


def byte_at(text, place):
    """The byte there, or -1, which is no byte, behind the text's end."""
    if place < len(text):
        return text[place]
    return -1


def run_end(text, place, fits):
    """The first place from here on whose byte doesn't fit, or the text's end."""
    while place < len(text) and fits(text[place]):
        place += 1
    return place
