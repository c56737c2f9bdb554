"""The operations on a trigger: what is refused, and with which code."""

from eventsieve.canonical import line_text
from eventsieve.network import Network
from eventsieve.objects import objects_of
from eventsieve.reading import read_line
from eventsieve.words import BadTextLine, is_ignored, text_lines

OUT_OF_RANGE = -2
NO_SUCH_LINE = -2
NOT_LATER = -3
NO_MENU = -6
FIRST_TEXT_LINE = -100
MOST_BYTES = 4096
MOST_LINES = 64
MOST_OBJECTS = 64


def all_within(numbers, least, greatest):
    return all([least <= number <= greatest for number in numbers])


def opening_fits(dead, window, most):
    return 0 <= dead <= 65535 and 1 <= window <= 65535 and 1 <= most <= 64


def menu_answer(trigger, size, codes):
    if not 0 <= size <= MOST_BYTES:
        return [OUT_OF_RANGE]
    lines = []
    names = {}
    for number, row in enumerate(text_lines(codes)):
        if is_ignored(row):
            continue
        if len(lines) == MOST_LINES:
            return [FIRST_TEXT_LINE - number]
        try:
            line = read_line(row, names)
        except BadTextLine:
            return [FIRST_TEXT_LINE - number]
        names[line.name] = len(lines)
        lines.append(line)
    trigger.load_menu(lines)
    return [len(lines)]


def net_answer(trigger, numbers, b1, w1, w2):
    shift = numbers[0]
    mul = numbers[1]
    down = numbers[2]
    b2 = numbers[3]
    scales_fit = 0 <= shift <= 15 and 1 <= mul <= 65535 and 0 <= down <= 24
    biases_fit = all_within([b2], -(2 ** 30), 2 ** 30) and all_within(b1, -(2 ** 24), 2 ** 24)
    weights_fit = all_within(w1, -128, 127) and all_within(w2, -32768, 32767)
    if not (scales_fit and biases_fit and weights_fit):
        return [OUT_OF_RANGE]
    trigger.network = Network(shift, mul, down, b2, b1, w1, w2)
    return [0]


def object_fits(single):
    return 0 <= single[0] <= 7 and 0 <= single[1] <= 65535 and 0 <= single[2] <= 1023


def event_answer(trigger, time, size, fields):
    if not (0 <= time <= 2 ** 63 - 1 and 0 <= size <= MOST_OBJECTS):
        return [OUT_OF_RANGE]
    objects = objects_of(fields)
    if not all([object_fits(single) for single in objects]):
        return [OUT_OF_RANGE]
    if trigger.lines is None:
        return [NO_MENU]
    if time <= trigger.last_time:
        return [NOT_LATER]
    return trigger.take_event(time, objects)


def has_line(trigger, number):
    return trigger.lines is not None and 0 <= number < len(trigger.lines)


def counts_answer(trigger, number):
    if not has_line(trigger, number):
        return [NO_SUCH_LINE]
    line = trigger.lines[number]
    return [0, line.held, line.passed, line.kept]


# The reasons begin with the one of kept events, so their counts stand in the order asked for.
def sums_answer(trigger):
    return [0, trigger.events] + trigger.reasons


def features_answer(trigger):
    return [0] + trigger.features_now()


def line_answer(trigger, number):
    if not has_line(trigger, number):
        return [NO_SUCH_LINE]
    names = [line.name for line in trigger.lines]
    text = line_text(trigger.lines[number], names)
    return [len(text)] + [ord(sign) for sign in text]
