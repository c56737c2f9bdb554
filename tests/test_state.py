"""What no list of 60 calls can show: counts at the end of their range, and the state behind the answers."""

import unittest

from eventsieve.reading import read_line
from eventsieve.trigger import OPEN, Session, call_at
from helper import FEATURES, SUMS, counts, event, line, menu, net, opening


def steps(condition, names=()):
    return read_line(list(("m:" + condition).encode("ascii")), {name: k for k, name in enumerate(names)}).steps


def written(condition):
    """The steps with the kinds of simple conditions alone, the operators behind."""
    return "".join("abcdefgh"[step[2]] if step[0] == ">" else step[0] for step in steps(condition))


def session_after(*calls):
    session = Session()
    for call in calls:
        session.answer_to(call_at(call, 0))
    return session.trigger


class Steps(unittest.TestCase):
    def test_group_to_the_right(self):
        self.assertEqual(written("a>1&b>1&c>1"), "abc&&")
        self.assertEqual(written("(a>1&b>1)&c>1"), "ab&c&")
        self.assertEqual(written("a>1|b>1|c>1"), "abc||")
        self.assertEqual(written("(a>1|b>1)|c>1"), "ab|c|")
        self.assertEqual(written("a>1&b>1|c>1&d>1|e>1"), "ab&cd&e||")
        self.assertEqual(written("a>1|b>1&c>1&d>1|e>1"), "abcd&&e||")
        self.assertEqual(written("!a>1&!(b>1|!!c>1)"), "a!bc!!|!&")

    def test_keep_all_of_a_simple_condition(self):
        self.assertEqual(steps("3b>007"), [(">", 3, 1, 7)])
        self.assertEqual(steps("b>7"), steps("1b>7"))
        self.assertEqual(steps("+h>99999"), [("+", 7, 99999)])
        self.assertEqual(steps("a~c<513"), [("~", 0, 2, 513)])
        self.assertEqual(steps("?>-12"), [("?", -12)])
        self.assertEqual(steps("?>-0"), steps("?>0"))
        self.assertEqual(steps("@y&^x", ("x", "y")), [("@", 1), ("^", 0), ("&",)])


class Counts(unittest.TestCase):
    def test_of_lines_and_reasons(self):
        one = (0, 1, 0)
        trigger = session_after(opening(2, 5, 2), menu("m:a>0/2\nn:b>0\np:!a>9"), event(1, one), event(2, one),
                                event(3, one), event(4, one), event(4, one), event(5, (0, 10, 0)), event(6))
        self.assertEqual([(line.held, line.passed, line.kept) for line in trigger.lines],
                         [(5, 2, 0), (0, 0, 0), (5, 5, 3)])
        self.assertEqual((trigger.events, trigger.reasons), (6, [3, 1, 2, 0]))

    def test_are_0_behind_a_new_menu_but_for_those_of_events(self):
        trigger = session_after(opening(), menu("m:!a>0"), event(1), event(2), menu("m:!a>0"), event(3))
        self.assertEqual([(line.held, line.passed, line.kept) for line in trigger.lines], [(1, 1, 1)])
        self.assertEqual((trigger.events, trigger.reasons), (3, [3, 0, 0, 0]))

    def test_are_modulo_2_to_the_64(self):
        trigger = session_after(opening(), menu("m:!a>0"))
        trigger.events = 2 ** 64 - 2
        trigger.reasons[0] = 2 ** 64 - 2
        line = trigger.lines[0]
        line.held = line.passed = line.kept = 2 ** 64 - 2
        for time, count in ((1, 2 ** 64 - 1), (2, 0), (3, 1)):
            self.assertEqual(trigger.take_event(time, []), [1, 1, 1, 0, 0])
            self.assertEqual((trigger.events, trigger.reasons[0], line.held, line.passed, line.kept), (count,) * 5)

    def test_are_told_modulo_2_to_the_64(self):
        session = Session()
        for call in (opening(3, 9, 1), menu("m:!a>0")):
            session.answer_to(call_at(call, 0))
        trigger = session.trigger
        line = trigger.lines[0]
        top = 2 ** 64 - 1
        line.held = line.passed = line.kept = top
        trigger.events = top - 3
        trigger.reasons = [top] * 4
        for call, told, total in ((event(1), [0, 0, 0, 0], [0, top - 2, 0, top, top, top]),
                                  (event(2), [0, 1, 1, 0], [0, top - 1, 0, top, 0, top]),
                                  (event(4), [0, 2, 2, 0], [0, top, 0, top, 0, 0]),
                                  (event(5, (0, 1, 0)), [0, 2, 2, 0], [0, 0, 0, 0, 0, 0]),
                                  (event(10), [0, 3, 3, 1], [0, 1, 1, 0, 0, 0])):
            session.answer_to(call_at(call, 0))
            self.assertEqual(session.answer_to(call_at(counts(0), 0)), told)
            self.assertEqual(session.answer_to(call_at(SUMS, 0)), total)
            # Requirement 7.
            self.assertEqual(total[1], sum(total[2:]) % 2 ** 64)

    def test_prescale_beyond_the_range(self):
        session = Session()
        for call in (opening(), menu("m:!a>0/3")):
            session.answer_to(call_at(call, 0))
        session.trigger.lines[0].held = 2 ** 64 - 2
        passing = [session.answer_to(call_at(event(time), 0))[2] for time in range(5)]
        self.assertEqual(passing, [1, 1, 0, 0, 1])

    def test_objects_of_the_last_event_stand(self):
        calls = [opening(), menu(""), event(1, (0, 1, 0)), event(2, (3, 600, 5)), event(2, (1, 1, 1)), net(shift=2)]
        trigger = session_after(*calls)
        self.assertEqual(trigger.last_objects, [(3, 600, 5)])
        self.assertEqual(session_after(*calls, opening()).last_objects, [])

    def test_parameters_of_a_new_network(self):
        network = session_after(opening(), net(shift=3, mul=9, down=4), opening()).network
        self.assertEqual((network.shift, network.mul, network.down, network.b2), (0, 1, 0, 0))
        self.assertEqual((network.b1, network.w1, network.w2), ([0] * 16, [0] * 512, [0] * 16))

    def test_names_and_prescales_stand(self):
        trigger = session_after(opening(), menu("first:a>0/007\n_2:b>0"))
        self.assertEqual([(line.name, line.prescale) for line in trigger.lines], [("first", 7), ("_2", 1)])


class Answers(unittest.TestCase):
    def test_are_lists_of_their_own(self):
        session = Session()
        for call in (opening(), menu("m:a>0"), event(1, (0, 1, 0))):
            session.answer_to(call_at(call, 0))
        for call in (counts(0), SUMS, FEATURES, line(0)):
            first = session.answer_to(call_at(call, 0))
            kept = list(first)
            first.clear()
            self.assertEqual(session.answer_to(call_at(call, 0)), kept)


class CallLayout(unittest.TestCase):
    def test_end_of_a_call(self):
        self.assertEqual(call_at([1, 2, 3, 4, 9], 0).end, 4)
        self.assertEqual(call_at([7, 2, 3, 2, 5, 6, 9], 1).rows, [[5, 6]])
        self.assertEqual(call_at(opening(), 0).operation, OPEN)

    def test_calls_without_rows(self):
        calls = [5, 3, 6, 7, 8, -1, 9]
        self.assertEqual([call_at(calls, start).end for start in (0, 2, 3, 4)], [2, 3, 4, 6])
        self.assertEqual([call_at(calls, start).numbers for start in (0, 2, 3, 4)], [[3], [], [], [-1]])


if __name__ == "__main__":
    unittest.main()
