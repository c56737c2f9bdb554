"""The layout of calls and answers, and the state that begins anew."""

import unittest

from eventsieve.trigger import answers
from helper import (GREATEST, LEAST, NO_MENU, NO_TRIGGER, OUT_OF_RANGE, asked, bare_event, bare_menu, event,
                    last_answer, menu, net, opening)


class Layout(unittest.TestCase):
    def test_example_of_the_document(self):
        calls = [1, 5, 100, 3,
                 2, 22, 22, 109, 58, 32, 50, 32, 97, 62, 49, 48, 32, 38, 32, 33, 40, 98, 62, 53, 124, 99, 62, 53, 41,
                 4, 7, 2, 6, 0, 11, 0, 0, 12, 0,
                 4, 9, 3, 9, 0, 11, 0, 0, 12, 0, 3, 1, 1,
                 4, 12, 3, 9, 0, 11, 0, 0, 12, 0, 1, 6, 0]
        self.assertEqual(answers(calls), [1, 0, 1, 1, 5, 1, 1, 1, 0, 0, 5, 0, 1, 1, 0, 2, 5, 0, 0, 0, 0, 1])

    def test_each_answer_has_its_length_before_it(self):
        self.assertEqual(answers([1, 0, 1, 1]), [1, 0])
        self.assertEqual(answers([1, 0, 0, 1]), [1, -2])
        self.assertEqual(answers([1, 0, 1, 1] + net()), [1, 0, 1, 0])
        self.assertEqual(answers([1, 0, 1, 1, 2, 0, 0]), [1, 0, 1, 0])
        self.assertEqual(answers([1, 0, 1, 1, 4, 1, 0, 0]), [1, 0, 1, -6])
        self.assertEqual(answers([1, 0, 1, 1, 2, 0, 0, 4, 1, 0, 0]), [1, 0, 1, 0, 5, 0, 0, 0, 0, 1])

    def test_calls_behind_refused_ones_are_read_where_they_begin(self):
        found = asked(bare_menu(-1), net(mul=0), bare_event(0, 65), opening(most=65), opening(),
                      bare_menu(4097), bare_event(0, -1), net(b2=3), menu("m:?>2"), event(0))
        self.assertEqual(found, [[-7], [-7], [-7], [-2], [0], [-2], [-2], [0], [1], [1, 1, 1, 3, 0]])

    def test_whole_numbers_and_never_truth_values(self):
        given = answers(opening() + net(b2=-4) + menu("m:a>1") + event(1) + event(2, (0, 2, 0)) + event(2))
        self.assertEqual({type(number) for number in given}, {int})
        self.assertIs(type(given), list)

    def test_score_alone_may_be_negative_behind_the_first_number(self):
        self.assertEqual(last_answer(opening(), menu(""), net(b2=-9), event(1)), [0, 0, 0, -9, 1])

    def test_all_64_lines_hold(self):
        text = "\n".join("l%d:!a>0" % k for k in range(64))
        full = 2 ** 64 - 1
        self.assertEqual(asked(opening(), menu(text), event(1), event(2, (0, 1, 0)))[2:],
                         [[1, full, full, 0, 0], [0, 0, 0, 0, 1]])

    def test_holding_and_passing_sum_powers_of_two(self):
        text = "a:a>0\nb:b>0\nc:a>0/2\nd:b>0\ne:a>0"
        self.assertEqual(last_answer(opening(), menu(text), event(1, (0, 1, 0))), [1, 21, 17, 0, 0])

    def test_as_many_calls_as_are_allowed(self):
        calls = [opening(), menu("m:a>0/3")] + [event(time, (0, 1, 0)) for time in range(58)]
        found = asked(*calls)
        self.assertEqual(len(found), 60)
        self.assertEqual([answer[2] for answer in found[2:]], [1 if time % 3 == 2 else 0 for time in range(58)])

    def test_as_many_numbers_as_are_allowed(self):
        big = menu("m:a>0" + " " * 4091)
        calls = [opening()] + [big] * 3 + [event(k, *[(0, 9, 0)] * 64) for k in range(18)]
        self.assertLessEqual(sum(len(call) for call in calls), 16000)
        self.assertEqual(asked(*calls)[4:], [[1, 1, 1, 0, 0]] * 18)


class StateAndInput(unittest.TestCase):
    def test_each_call_before_the_first_open(self):
        self.assertEqual(asked(menu("m:a>0"), net(), event(1, (0, 1, 0))), [[NO_TRIGGER]] * 3)

    def test_no_trigger_stands_ahead_of_all_other_refusals(self):
        found = asked(bare_menu(4097), menu("?"), net(shift=-1), bare_event(-1, 65), event(1, (8, 0, 0)))
        self.assertEqual(found, [[NO_TRIGGER]] * 5)

    def test_what_is_refused_before_open_leaves_nothing_behind(self):
        found = asked(menu("m:a>0"), net(b2=8), opening(), event(5), menu(""), event(5))
        self.assertEqual(found, [[-7], [-7], [0], [NO_MENU], [0], [0, 0, 0, 0, 1]])

    def test_refused_open_makes_no_trigger(self):
        self.assertEqual(asked(opening(most=0), menu("")), [[OUT_OF_RANGE], [NO_TRIGGER]])

    def test_begins_anew_each_time(self):
        calls = opening() + menu("m:a>0\np:^m|a>0/2") + net(b2=4) + event(1, (0, 1, 0)) + event(2, (0, 1, 0))
        first = answers(calls)
        self.assertEqual(answers(calls), first)
        self.assertEqual(answers([2, 0, 0]), [1, NO_TRIGGER])
        self.assertEqual(answers([4, 3, 0, 0]), [1, NO_TRIGGER])
        self.assertEqual(answers(opening() + event(3)), [1, 0, 1, NO_MENU])

    def test_what_is_handed_in_is_not_changed(self):
        calls = opening() + menu("m:a>0\np:b~c<9") + net(b2=4) + event(9, (2, 1, 0), (0, 7, 9), (1, 3, 5)) + event(3)
        kept = list(calls)
        answers(calls)
        self.assertEqual(calls, kept)
        answers(calls)
        self.assertEqual(calls, kept)

    def test_what_is_given_back_is_not_kept(self):
        calls = opening() + menu("m:a>0") + event(1, (0, 1, 0))
        first = answers(calls)
        kept = list(first)
        first.clear()
        self.assertEqual(answers(calls), kept)

    def test_greatest_and_least_numbers_are_refused(self):
        for number in (LEAST, GREATEST):
            with self.subTest(number=number):
                found = asked(opening(dead=number), opening(window=number), opening(most=number), opening(),
                              bare_menu(number), net(shift=number), net(mul=number), net(down=number),
                              net(b2=number), net(b1={3: number}), net(w1={500: number}), net(w2={2: number}),
                              bare_event(5, number), event(5, (number, 0, 0)), event(5, (0, number, 0)),
                              event(5, (0, 0, number)))
                self.assertEqual(found, [[-2]] * 3 + [[0]] + [[-2]] * 12)


if __name__ == "__main__":
    unittest.main()
