"""The text lines of a menu and the tokens of a text line."""

LETTERS = "ABCDEFGHIJKLMNOPQRSTUVWXYZabcdefghijklmnopqrstuvwxyz_"
DIGITS = "0123456789"
SIGNS = "!&()+-/:<>?@^|~"
LINE_END = 10
LONGEST_NAME = 16
LONGEST_NUMBER = 5


class BadTextLine(ValueError):
    pass


def text_lines(codes):
    rows = []
    row = []
    for byte in codes:
        if byte == LINE_END:
            rows.append(row)
            row = []
        else:
            row.append(byte)
    rows.append(row)
    return rows


def is_ignored(row):
    return all([byte == ord(" ") for byte in row])


def characters():
    found = {}
    for sign in LETTERS + DIGITS + SIGNS + " ":
        found[ord(sign)] = sign
    return found


def text_of(row):
    known = characters()
    signs = []
    for byte in row:
        if byte not in known:
            raise BadTextLine("a byte that belongs to no token")
        signs.append(known[byte])
    return "".join(signs)


def run_end(text, start, allowed, longest):
    end = start
    while end < len(text) and text[end] in allowed:
        end += 1
    if end - start > longest:
        raise BadTextLine("a name or a number that is too long")
    return end


def word_end(text, start):
    first = text[start]
    if first in LETTERS:
        return run_end(text, start, LETTERS + DIGITS, LONGEST_NAME)
    if first in DIGITS:
        return run_end(text, start, DIGITS, LONGEST_NUMBER)
    return start + 1


def words_of(row):
    text = text_of(row)
    found = []
    start = 0
    while start < len(text):
        end = word_end(text, start)
        if text[start] != " ":
            found.append(text[start:end])
        start = end
    return found
