"""Calls as lists of numbers, and what answers gives back as one list a call."""

from eventsieve.trigger import answers

OUT_OF_RANGE = -2
NOT_LATER = -3
NO_MENU = -6
NO_TRIGGER = -7

LEAST = -(2 ** 63)
GREATEST = 2 ** 63 - 1

SUMS = [6]
FEATURES = [7]


def opening(dead=0, window=1, most=64):
    return [1, dead, window, most]


def menu(text):
    codes = list(text) if isinstance(text, bytes) else list(text.encode("ascii"))
    return [2, len(codes), len(codes)] + codes


def bare_menu(size):
    return [2, size, 0]


def net(shift=0, mul=1, down=0, b2=0, b1=(), w1=(), w2=()):
    """Rows are filled up with 0; a dict tells single places."""
    call = [3, shift, mul, down, b2]
    for row, length in ((b1, 16), (w1, 512), (w2, 16)):
        full = [0] * length
        for place, number in row.items() if isinstance(row, dict) else enumerate(row):
            full[place] = number
        call += [length] + full
    return call


def event(time, *objects):
    fields = [field for single in objects for field in single]
    return [4, time, len(objects), len(fields)] + fields


def bare_event(time, size):
    return [4, time, size, 0]


def counts(line):
    return [5, line]


def line(number):
    return [8, number]


def objects_of_kind(letter, *values):
    return [("abcdefgh".index(letter), value, 0) for value in values]


def asked(*calls):
    given = answers([number for call in calls for number in call])
    found = []
    place = 0
    while place < len(given):
        length = given[place]
        found.append(given[place + 1:place + 1 + length])
        place += 1 + length
    return found


def last_answer(*calls):
    return asked(*calls)[-1]


def menu_answer(text):
    """What a menu is answered: one number."""
    answer = last_answer(opening(), menu(text))
    assert len(answer) == 1, answer
    return answer[0]


def holding(text, *objects, score=0):
    """Whether the last line of the menu holds for one event."""
    answer = asked(opening(), net(b2=score), menu(text), event(7, *objects))
    return answer[3][1] >> (answer[2][0] - 1) == 1


def holds(condition, *objects, score=0):
    return holding("m:" + condition, *objects, score=score)


def written(answer):
    """The text that a call of line is answered."""
    assert answer[0] == len(answer) - 1, answer
    return bytes(answer[1:]).decode("ascii")


def canonical(text, number=0):
    return written(last_answer(opening(), menu(text), line(number)))
