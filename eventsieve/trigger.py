"""The calls that are handed in as one list, and the answers to them."""

from eventsieve.operations import OUT_OF_RANGE, counts_answer, event_answer, features_answer, line_answer
from eventsieve.operations import menu_answer, net_answer, opening_fits, sums_answer
from eventsieve.state import Trigger

NO_TRIGGER = -7
OPEN = 1
MENU = 2
NET = 3
EVENT = 4
COUNTS = 5
SUMS = 6
FEATURES = 7
# For each operation, how many whole numbers and how many rows follow it.
NUMBERS_OF_CALL = {1: 3, 2: 1, 3: 4, 4: 2, 5: 1, 6: 0, 7: 0, 8: 1}
ROWS_OF_CALL = {1: 0, 2: 1, 3: 3, 4: 1, 5: 0, 6: 0, 7: 0, 8: 0}


class Call:
    def __init__(self, operation, numbers, rows, end):
        self.operation = operation
        self.numbers = numbers
        self.rows = rows
        self.end = end


class Session:
    def __init__(self):
        self.trigger = None

    def answer_to(self, call):
        if call.operation == OPEN:
            return self.open_anew(call.numbers[0], call.numbers[1], call.numbers[2])
        if self.trigger is None:
            return [NO_TRIGGER]
        if call.operation == MENU:
            return menu_answer(self.trigger, call.numbers[0], call.rows[0])
        if call.operation == NET:
            return net_answer(self.trigger, call.numbers, call.rows[0], call.rows[1], call.rows[2])
        if call.operation == EVENT:
            return event_answer(self.trigger, call.numbers[0], call.numbers[1], call.rows[0])
        if call.operation == COUNTS:
            return counts_answer(self.trigger, call.numbers[0])
        if call.operation == SUMS:
            return sums_answer(self.trigger)
        if call.operation == FEATURES:
            return features_answer(self.trigger)
        return line_answer(self.trigger, call.numbers[0])

    def open_anew(self, dead, window, most):
        if not opening_fits(dead, window, most):
            return [OUT_OF_RANGE]
        self.trigger = Trigger(dead, window, most)
        return [0]


def call_at(calls, start):
    operation = calls[start]
    end = start + 1 + NUMBERS_OF_CALL[operation]
    numbers = calls[start + 1:end]
    rows = []
    for row in range(ROWS_OF_CALL[operation]):
        begin = end + 1
        end = begin + calls[end]
        rows.append(calls[begin:end])
    return Call(operation, numbers, rows, end)


def answers(calls):
    session = Session()
    given = []
    place = 0
    while place < len(calls):
        call = call_at(calls, place)
        answer = session.answer_to(call)
        given.append(len(answer))
        given.extend(answer)
        place = call.end
    return given
