"""The layout of calls and answers, and the state that begins anew."""

import random
import unittest

from eventsieve.trigger import answers
from helper import (FEATURES, GREATEST, LEAST, NO_MENU, NO_TRIGGER, OUT_OF_RANGE, SUMS, asked, bare_event,
                    bare_menu, counts, event, last_answer, line, menu, net, opening)


class Layout(unittest.TestCase):
    def test_example_of_the_document(self):
        calls = [1, 5, 100, 3,
                 2, 22, 22, 109, 58, 32, 50, 32, 97, 62, 49, 48, 32, 38, 32, 33, 40, 98, 62, 53, 124, 99, 62, 53, 41,
                 8, 0,
                 4, 7, 2, 6, 0, 11, 0, 0, 12, 0,
                 4, 9, 3, 9, 0, 11, 0, 0, 12, 0, 3, 1, 1,
                 4, 12, 3, 9, 0, 11, 0, 0, 12, 0, 1, 6, 0,
                 5, 0,
                 6]
        self.assertEqual(answers(calls), [
            1, 0, 1, 1, 19, 18, 109, 58, 50, 97, 62, 49, 48, 38, 33, 40, 98, 62, 53, 124, 99, 62, 53, 41,
            5, 1, 1, 1, 0, 0, 5, 0, 1, 1, 0, 2, 5, 0, 0, 0, 0, 1, 4, 0, 2, 2, 1, 6, 0, 3, 1, 1, 1, 0])

    def test_each_answer_has_its_length_before_it(self):
        self.assertEqual(answers([1, 0, 1, 1]), [1, 0])
        self.assertEqual(answers([1, 0, 0, 1]), [1, -2])
        self.assertEqual(answers([1, 0, 1, 1] + net()), [1, 0, 1, 0])
        self.assertEqual(answers([1, 0, 1, 1, 2, 0, 0]), [1, 0, 1, 0])
        self.assertEqual(answers([1, 0, 1, 1, 4, 1, 0, 0]), [1, 0, 1, -6])
        self.assertEqual(answers([1, 0, 1, 1, 2, 0, 0, 4, 1, 0, 0]), [1, 0, 1, 0, 5, 0, 0, 0, 0, 1])
        self.assertEqual(answers([5, 0, 6, 7, 8, 0]), [1, -7] * 4)
        self.assertEqual(answers([1, 0, 1, 1, 6, 7, 5, 0, 8, 0]), [1, 0, 6] + [0] * 6 + [33] + [0] * 33 + [1, -2] * 2)
        self.assertEqual(answers([1, 0, 1, 1, 2, 5, 5, 109, 58, 97, 62, 57, 5, 0, 8, 0, 5, 1, 8, 1]),
                         [1, 0, 1, 1, 4, 0, 0, 0, 0, 6, 5, 109, 58, 97, 62, 57, 1, -2, 1, -2])

    def test_calls_behind_refused_ones_are_read_where_they_begin(self):
        found = asked(bare_menu(-1), net(mul=0), bare_event(0, 65), opening(most=65), opening(),
                      bare_menu(4097), bare_event(0, -1), net(b2=3), menu("m:?>2"), event(0), counts(8), SUMS,
                      line(6), counts(0), line(7), counts(5))
        self.assertEqual(found, [[-7], [-7], [-7], [-2], [0], [-2], [-2], [0], [1], [1, 1, 1, 3, 0], [-2],
                                 [0, 1, 1, 0, 0, 0], [-2], [0, 1, 1, 1], [-2], [-2]])

    def test_whole_numbers_and_never_truth_values(self):
        given = answers(opening() + net(b2=-4) + menu("m:a>1") + event(1) + event(2, (0, 2, 0)) + event(2)
                        + counts(0) + SUMS + FEATURES + line(0) + counts(1) + line(1))
        self.assertEqual({type(number) for number in given}, {int})
        self.assertIs(type(given), list)

    def test_score_alone_may_be_negative_behind_the_first_number(self):
        self.assertEqual(last_answer(opening(), menu(""), net(b2=-9), event(1)), [0, 0, 0, -9, 1])

    def test_all_64_lines_hold(self):
        text = "\n".join("l%d:!a>0" % k for k in range(64))
        full = 2 ** 64 - 1
        self.assertEqual(asked(opening(), menu(text), event(1), event(2, (0, 1, 0)))[2:],
                         [[1, full, full, 0, 0], [0, 0, 0, 0, 1]])

    def test_holding_and_passing_sum_powers_of_two(self):
        text = "a:a>0\nb:b>0\nc:a>0/2\nd:b>0\ne:a>0"
        self.assertEqual(last_answer(opening(), menu(text), event(1, (0, 1, 0))), [1, 21, 17, 0, 0])

    def test_as_many_calls_as_are_allowed(self):
        calls = [opening(), menu("m:a>0/3")] + [event(time, (0, 1, 0)) for time in range(58)]
        found = asked(*calls)
        self.assertEqual(len(found), 60)
        self.assertEqual([answer[2] for answer in found[2:]], [1 if time % 3 == 2 else 0 for time in range(58)])

    def test_as_many_numbers_as_are_allowed(self):
        big = menu("m:a>0" + " " * 4091)
        calls = [opening()] + [big] * 3 + [event(k, *[(0, 9, 0)] * 64) for k in range(18)]
        self.assertLessEqual(sum(len(call) for call in calls), 16000)
        self.assertEqual(asked(*calls)[4:], [[1, 1, 1, 0, 0]] * 18)


class EveryListThatMayBeHandedIn(unittest.TestCase):
    def some_call(self, dice, time):
        """A call with arguments that fit, stand at their bounds or lie beyond them."""
        def number(*likely):
            return dice.choice(likely if dice.random() < 0.95 else (LEAST, -1, GREATEST, 4097, 65536))
        some = dice.randint(1, 9)
        if some == 1:
            return opening(number(0, 1, 65535), number(1, 9, 65535), number(1, 2, 64))
        if some == 2:
            signs = "aabh1029@^?~+-<>>:::/&|!() \n\n"
            text = "".join(dice.choice(signs) for k in range(dice.randint(0, 20)))
            rows = ["a:b>1", " ", "b:@a&(a>1|!^a)/2", "c:?>-9", "d:a~a<9", "e:2a>0&(b>1&+c>2)", text]
            return menu("\n".join(dice.sample(rows, dice.randint(0, 5))))
        if some == 3:
            size = number(-1, 4097, GREATEST, 0)
            return dice.choice((bare_menu(size), bare_event(time, 65 if size == 4097 else size)))
        if some == 4:
            return net(number(0, 15), number(1, 65535), number(0, 24), number(-9, 9), [number(9, -9)] * 16,
                       [number(127, -128)] * 512, [number(32767, -32768)] * 16)
        if some in (5, 6):
            objects = [(number(*range(8)), number(0, 5, 65535), number(0, 9, 1023)) for k in range(dice.randint(0, 9))]
            return event(dice.choice((time, time + 1, number(0, 7))), *objects)
        return [counts(number(0, 1, 2)), SUMS, FEATURES, line(number(0, 1, 2))][dice.randint(0, 3)]

    def check_form(self, call, answer):
        self.assertEqual({type(number) for number in answer}, {int})
        if answer[0] < 0:
            self.assertEqual(len(answer), 1)
            return
        self.assertEqual(len(answer), answer[0] + 1 if call[0] == 8 else (1, 1, 1, 5, 4, 6, 33)[call[0] - 1])
        for place, number in enumerate(answer):
            self.assertTrue(number >= 0 or (call[0], place) == (4, 3))

    def test_raises_nothing_and_changes_nothing(self):
        refusals = set()
        for seed in range(400):
            dice = random.Random(seed)
            calls = [opening(), menu("a:!a>9\nb:@a")] if dice.random() < 0.9 else []
            for time in range(dice.randint(1, 58)):
                calls.append(self.some_call(dice, time))
            while sum(len(call) for call in calls) > 16000:
                calls.pop()
            handed_in = [number for call in calls for number in call]
            kept = list(handed_in)
            given = answers(handed_in)
            self.assertEqual(handed_in, kept)
            self.assertEqual(answers(handed_in), given)
            found = asked(*calls)
            self.assertEqual(len(found), len(calls))
            for call, answer in zip(calls, found):
                self.check_form(call, answer)
                refusals.add((call[0], max(answer[0], -100) if answer[0] < 0 else 0))
        # Each call was taken and refused for each of its reasons.
        due = {1: (0, -2), 2: (0, -7, -2, -100), 3: (0, -7, -2), 4: (0, -7, -2, -6, -3), 5: (0, -7, -2), 6: (0, -7),
               7: (0, -7), 8: (0, -7, -2)}
        self.assertEqual(refusals, {(number, code) for number in due for code in due[number]})


class StateAndInput(unittest.TestCase):
    def test_each_call_before_the_first_open(self):
        calls = [menu("m:a>0"), net(), event(1, (0, 1, 0)), counts(0), SUMS, FEATURES, line(0)]
        self.assertEqual(asked(*calls), [[NO_TRIGGER]] * 7)
        self.assertEqual(asked(opening(dead=-1), *calls), [[OUT_OF_RANGE]] + [[NO_TRIGGER]] * 7)

    def test_no_trigger_stands_ahead_of_all_other_refusals(self):
        found = asked(bare_menu(4097), menu("?"), net(shift=-1), bare_event(-1, 65), event(1, (8, 0, 0)), counts(-1),
                      line(-1))
        self.assertEqual(found, [[NO_TRIGGER]] * 7)

    def test_what_is_refused_before_open_leaves_nothing_behind(self):
        found = asked(menu("m:a>0"), net(b2=8), opening(), event(5), menu(""), event(5))
        self.assertEqual(found, [[-7], [-7], [0], [NO_MENU], [0], [0, 0, 0, 0, 1]])

    def test_refused_open_makes_no_trigger(self):
        self.assertEqual(asked(opening(most=0), menu("")), [[OUT_OF_RANGE], [NO_TRIGGER]])

    def test_begins_anew_each_time(self):
        calls = opening() + menu("m:a>0\np:^m|a>0/2") + net(b2=4) + event(1, (0, 1, 0)) + event(2, (0, 1, 0))
        calls += counts(0) + SUMS + FEATURES + line(1)
        first = answers(calls)
        self.assertEqual(answers(calls), first)
        self.assertEqual(answers([2, 0, 0]), [1, NO_TRIGGER])
        self.assertEqual(answers([4, 3, 0, 0]), [1, NO_TRIGGER])
        self.assertEqual(answers(opening() + event(3)), [1, 0, 1, NO_MENU])
        self.assertEqual(asked(counts(0), SUMS, FEATURES, line(0)), [[NO_TRIGGER]] * 4)
        self.assertEqual(asked(opening(), counts(0), SUMS, FEATURES, line(0)), [[0], [-2], [0] * 6, [0] * 33, [-2]])

    def test_what_is_handed_in_is_not_changed(self):
        calls = opening() + menu("m:a>0\np:b~c<9") + net(b2=4) + event(9, (2, 1, 0), (0, 7, 9), (1, 3, 5)) + event(3)
        calls += counts(0) + SUMS + FEATURES + line(0) + line(1)
        kept = list(calls)
        answers(calls)
        self.assertEqual(calls, kept)
        answers(calls)
        self.assertEqual(calls, kept)

    def test_what_is_given_back_is_not_kept(self):
        calls = opening() + menu("m:a>0") + event(1, (0, 1, 0)) + counts(0) + SUMS + FEATURES + line(0)
        first = answers(calls)
        kept = list(first)
        first.clear()
        self.assertEqual(answers(calls), kept)

    def test_greatest_and_least_numbers_are_refused(self):
        for number in (LEAST, GREATEST):
            with self.subTest(number=number):
                found = asked(opening(dead=number), opening(window=number), opening(most=number), opening(),
                              bare_menu(number), net(shift=number), net(mul=number), net(down=number),
                              net(b2=number), net(b1={3: number}), net(w1={500: number}), net(w2={2: number}),
                              bare_event(5, number), event(5, (number, 0, 0)), event(5, (0, number, 0)),
                              event(5, (0, 0, number)), counts(number), line(number))
                self.assertEqual(found, [[-2]] * 3 + [[0]] + [[-2]] * 14)


if __name__ == "__main__":
    unittest.main()
