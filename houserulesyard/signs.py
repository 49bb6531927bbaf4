"""Bytes and what they say: lines, words, texts."""

SIGNS = " abcdefghijklmnopqrstuvwxyz0123456789=<>-"
OTHER_SIGN = "?"
LINE_END = 10
FIRST_BYTE = 32
LAST_BYTE = 126
LONGEST_LINE = 100


def sign_of(byte):
    """The sign that a byte stands for."""
    for sign in SIGNS:
        if ord(sign) == byte:
            return sign
    # No word that says something holds this sign: it may stand for every byte that no such word holds.
    return OTHER_SIGN


def is_line(row):
    """Whether these bytes can be a line."""
    if len(row) > LONGEST_LINE:
        return False
    return all([FIRST_BYTE <= byte <= LAST_BYTE for byte in row])


def words_of(row):
    """The words of a line; none if the bytes can't be a line, as no words say nothing either."""
    if not is_line(row):
        return []
    return "".join([sign_of(byte) for byte in row]).split()


def lines_of(text):
    """The lines of a text, as lists of bytes."""
    lines = []
    line = []
    for byte in text:
        if byte == LINE_END:
            lines.append(line)
            line = []
        else:
            line.append(byte)
    if len(line) > 0:
        lines.append(line)
    return lines


def bytes_of(text):
    """The bytes that say a text."""
    return [ord(sign) for sign in text]
