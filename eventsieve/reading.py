"""A text line of a menu, read by loops alone: it may nest deeper than calls may."""

from eventsieve.words import BadTextLine, LETTERS, words_of

KIND_LETTERS = "abcdefgh"
GREATEST_COUNT = 16
GREATEST_THRESHOLD = 65535
GREATEST_NUMBER = 99999
GREATEST_DISTANCE = 513
GREATEST_PRESCALE = 65535
DEEPEST = 16


class MenuLine:
    # In the steps each operator stands behind its operands, so that a loop with
    # a stack can go through a condition however deep it is nested.
    def __init__(self, name, prescale, steps):
        self.name = name
        self.prescale = prescale
        self.steps = steps
        self.held = 0
        self.passed = 0
        self.kept = 0


class WordReader:
    def __init__(self, words):
        self.words = words
        self.place = 0

    # No token is empty, so the empty text can stand for the end.
    def ahead(self):
        if self.place < len(self.words):
            return self.words[self.place]
        return ""

    def take(self):
        word = self.ahead()
        self.place += 1
        return word

    def take_if(self, sign):
        if self.ahead() != sign:
            return False
        self.place += 1
        return True

    def demand(self, sign):
        if not self.take_if(sign):
            raise BadTextLine("a sign is missing")

    def take_name(self):
        word = self.take()
        if word == "" or word[0] not in LETTERS:
            raise BadTextLine("a name is missing")
        return word

    def take_kind(self):
        name = self.take_name()
        if len(name) != 1 or name not in KIND_LETTERS:
            raise BadTextLine("a name that is no kind")
        return KIND_LETTERS.index(name)

    def take_number(self, least, greatest):
        word = self.take()
        if not word.isdigit():
            raise BadTextLine("a number is missing")
        number = int(word)
        if number < least or number > greatest:
            raise BadTextLine("a number that is out of range")
        return number


class ConditionReader:
    # What waits is each `!`, `(`, `&` and `|` whose last operand isn't read yet.
    def __init__(self, reader, names):
        self.reader = reader
        self.names = names
        self.steps = []
        self.waiting = []
        self.depth = 0

    def read(self):
        self.read_operand()
        while self.reader.ahead() in ("&", "|"):
            self.hold_back(self.reader.take())
            self.read_operand()
        self.release("&|")
        if len(self.waiting) > 0:
            raise BadTextLine("a parenthesis that is not closed")
        return self.steps

    # Operators of one rank group to the right, so none of its own rank is released.
    def hold_back(self, sign):
        if sign == "|":
            self.release("&")
        self.waiting.append(sign)

    def release(self, signs):
        while len(self.waiting) > 0 and self.waiting[-1] in signs:
            self.steps.append((self.waiting.pop(),))

    def read_operand(self):
        self.read_openings()
        self.steps.append(read_simple(self.reader, self.names))
        self.release("!")
        while self.depth > 0 and self.reader.take_if(")"):
            self.close()

    def read_openings(self):
        while self.reader.ahead() in ("!", "("):
            sign = self.reader.take()
            self.waiting.append(sign)
            if sign == "(":
                self.depth += 1
            if self.depth > DEEPEST:
                raise BadTextLine("parentheses that are nested too deep")

    def close(self):
        self.release("&|")
        self.waiting.pop()
        self.depth -= 1
        self.release("!")


def read_simple(reader, names):
    if reader.take_if("+"):
        kind = reader.take_kind()
        reader.demand(">")
        return ("+", kind, reader.take_number(0, GREATEST_NUMBER))
    if reader.take_if("?"):
        return read_score(reader)
    if reader.take_if("@"):
        return ("@", read_line_number(reader, names))
    if reader.take_if("^"):
        return ("^", read_line_number(reader, names))
    if reader.ahead().isdigit():
        least = reader.take_number(1, GREATEST_COUNT)
        return read_count(reader, least, reader.take_kind())
    kind = reader.take_kind()
    if reader.ahead() == "~":
        return read_distance(reader, kind)
    return read_count(reader, 1, kind)


def read_score(reader):
    reader.demand(">")
    sign = 1
    if reader.take_if("-"):
        sign = -1
    return ("?", sign * reader.take_number(0, GREATEST_NUMBER))


def read_line_number(reader, names):
    name = reader.take_name()
    if name not in names:
        raise BadTextLine("a name of no line before this one")
    return names[name]


def read_count(reader, least, kind):
    reader.demand(">")
    return (">", least, kind, reader.take_number(0, GREATEST_THRESHOLD))


def read_distance(reader, kind):
    reader.demand("~")
    other = reader.take_kind()
    reader.demand("<")
    return ("~", kind, other, reader.take_number(0, GREATEST_DISTANCE))


# A name stands for its line's number, and only lines before this one may be named.
def read_line(row, names):
    reader = WordReader(words_of(row))
    name = reader.take_name()
    if name in names:
        raise BadTextLine("a name that stands already")
    reader.demand(":")
    steps = ConditionReader(reader, names).read()
    prescale = 1
    if reader.take_if("/"):
        prescale = reader.take_number(1, GREATEST_PRESCALE)
    if reader.ahead() != "":
        raise BadTextLine("tokens behind the end of the line")
    return MenuLine(name, prescale, steps)
