"""Operations 5 and 6, counts and sums."""

import random
import unittest

from helper import (FEATURES, GREATEST, LEAST, NO_TRIGGER, OUT_OF_RANGE, SUMS, asked, bare_event, bare_menu, counts,
                    event, last_answer, line, menu, net, opening)

ONE = (0, 1, 0)


class CountsOfLines(unittest.TestCase):
    def counted(self, number, *calls):
        """What counts tells of the first lines of the last menu."""
        return asked(*calls, *[counts(k) for k in range(number)])[-number:]

    def test_held_passed_and_kept_of_each_line(self):
        events = [event(1, ONE), event(2, (1, 1, 0)), event(3, ONE, (1, 1, 0)), event(4), event(5, ONE)]
        self.assertEqual(self.counted(4, opening(), menu("m:a>0/2\nn:b>0\no:@m|@n/3\np:c>0"), *events),
                         [[0, 3, 1, 1], [0, 2, 2, 2], [0, 4, 1, 1], [0, 0, 0, 0]])

    def test_before_the_first_event(self):
        self.assertEqual(self.counted(2, opening(), menu("m:a>0\nn:!a>0")), [[0, 0, 0, 0]] * 2)

    def test_passed_in_the_dead_time_and_in_a_full_window(self):
        events = [event(time, ONE) for time in (1, 2, 4, 5, 12)]
        found = asked(opening(3, 10, 1), menu("m:a>0"), *events)
        self.assertEqual([answer[4] for answer in found[2:]], [0, 2, 3, 3, 0])
        self.assertEqual(self.counted(1, opening(3, 10, 1), menu("m:a>0"), *events), [[0, 5, 5, 2]])

    def test_kept_event_counts_only_for_lines_that_pass(self):
        self.assertEqual(self.counted(3, opening(), menu("m:a>0\nn:a>0/2\no:b>0"), event(1, ONE)),
                         [[0, 1, 1, 1], [0, 1, 0, 0], [0, 0, 0, 0]])

    def test_after_each_event(self):
        calls = [opening(2, 4, 1), menu("m:a>0/2")]
        for time in range(8):
            calls += [event(time, ONE), counts(0)]
        self.assertEqual(asked(*calls)[3::2], [[0, 1, 0, 0], [0, 2, 1, 1], [0, 3, 1, 1], [0, 4, 2, 1], [0, 5, 2, 1],
                                               [0, 6, 3, 2], [0, 7, 3, 2], [0, 8, 4, 2]])

    def test_bounds_of_the_line(self):
        for number in (1, 2, 3, 64):
            text = "\n".join("l%d:a>0/%d" % (k, number - k) for k in range(number))
            first = [opening(), menu(text), event(1, ONE)]
            with self.subTest(number=number):
                self.assertEqual(last_answer(*first, counts(number - 1)), [0, 1, 1, 1])
                for missing in (-1, number, number + 1, -number, -number - 1, LEAST, LEAST + 1, GREATEST, 2 ** 62):
                    self.assertEqual(last_answer(*first, counts(missing)), [OUT_OF_RANGE])
        first = [opening(), menu("m:a>0/2\nn:a>0"), event(1, ONE)]
        self.assertEqual(last_answer(*first, counts(0)), [0, 1, 0, 0])

    def test_ignored_text_lines_have_no_number(self):
        found = self.counted(3, opening(), menu("\n  \nm:a>0\n\n \nn:b>0\n"), event(1, (1, 1, 0)))
        self.assertEqual(found, [[0, 0, 0, 0], [0, 1, 1, 1], [OUT_OF_RANGE]])

    def test_without_a_trigger(self):
        self.assertEqual(asked(counts(0), counts(-1), counts(GREATEST), opening(most=0), counts(0)),
                         [[NO_TRIGGER]] * 3 + [[OUT_OF_RANGE], [NO_TRIGGER]])

    def test_without_a_line(self):
        self.assertEqual(asked(opening(), counts(0), counts(-1), menu("?"), counts(0), bare_menu(-1), counts(0)),
                         [[0], [-2], [-2], [-100], [-2], [-2], [-2]])
        self.assertEqual(asked(opening(), menu(" \n "), counts(0), counts(-1), event(1), counts(0)),
                         [[0], [0], [-2], [-2], [0, 0, 0, 0, 1], [-2]])

    def test_behind_a_refused_menu(self):
        for refused in (menu("m:a>0\nm:a>0"), bare_menu(4097), menu("n:b>0\n?")):
            found = asked(opening(), menu("m:a>0"), event(1, ONE), refused, counts(0), event(2, ONE), counts(0))
            self.assertEqual([found[4], found[6]], [[0, 1, 1, 1], [0, 2, 2, 2]])

    def test_behind_a_second_menu(self):
        first = [opening(), menu("m:a>0\nn:a>0"), event(1, ONE)]
        self.assertEqual(asked(*first, menu("m:a>0"), counts(0), counts(1), event(2, ONE), counts(0))[3:],
                         [[1], [0, 0, 0, 0], [-2], [1, 1, 1, 0, 0], [0, 1, 1, 1]])
        self.assertEqual(asked(*first, menu(""), counts(0), menu("m:a>0"), counts(0))[3:],
                         [[0], [-2], [1], [0, 0, 0, 0]])

    def test_behind_a_second_open(self):
        first = [opening(), menu("m:a>0"), event(1, ONE)]
        self.assertEqual(asked(*first, opening(), counts(0), menu("m:a>0"), counts(0))[3:],
                         [[0], [-2], [1], [0, 0, 0, 0]])
        self.assertEqual(last_answer(*first, opening(most=65), counts(0)), [0, 1, 1, 1])

    def test_a_net_leaves_them(self):
        first = [opening(), menu("m:?>2"), net(b2=3), event(1), net(), event(2)]
        self.assertEqual(last_answer(*first, counts(0)), [0, 1, 1, 1])

    def test_passed_is_held_by_the_prescale(self):
        # Requirement 2.
        for seed in range(60):
            dice = random.Random(seed)
            prescales = [dice.choice((1, 1, 2, 3, 4, 7, 20, 65535)) for k in range(4)]
            text = "\n".join("l%d:%s>0/%d" % (k, "abcd"[k], prescale) for k, prescale in enumerate(prescales))
            events = [event(time, *[(k, 1, 0) for k in range(4) if dice.random() < 0.7])
                      for time in range(dice.randint(1, 54))]
            for prescale, answer in zip(prescales, self.counted(4, opening(dead=2), menu(text), *events)):
                self.assertEqual(answer[2], answer[1] // prescale)
                self.assertLessEqual(answer[3], answer[2])


class SumsOfEvents(unittest.TestCase):
    def summed(self, *calls):
        return last_answer(*calls, SUMS)

    def test_each_reason(self):
        first = [opening(3, 10, 1), menu("m:a>0")]
        self.assertEqual(self.summed(*first), [0, 0, 0, 0, 0, 0])
        self.assertEqual(self.summed(*first, event(1)), [0, 1, 0, 1, 0, 0])
        self.assertEqual(self.summed(*first, event(1, ONE)), [0, 1, 1, 0, 0, 0])
        self.assertEqual(self.summed(*first, event(1, ONE), event(2, ONE)), [0, 2, 1, 0, 1, 0])
        self.assertEqual(self.summed(*first, event(1, ONE), event(4, ONE)), [0, 2, 1, 0, 0, 1])
        self.assertEqual(self.summed(*first, *[event(time, ONE) for time in range(1, 13)], event(13), event(14)),
                         [0, 14, 2, 2, 3, 7])

    def test_without_a_trigger(self):
        self.assertEqual(asked(SUMS, opening(most=0), SUMS, opening(), SUMS),
                         [[NO_TRIGGER], [OUT_OF_RANGE], [NO_TRIGGER], [0], [0] * 6])

    def test_without_a_menu_and_without_lines(self):
        self.assertEqual(asked(opening(), event(1), SUMS, menu("?"), event(1), SUMS, menu(""), SUMS, event(1), SUMS),
                         [[0], [-6], [0] * 6, [-100], [-6], [0] * 6, [0], [0] * 6, [0, 0, 0, 0, 1],
                          [0, 1, 0, 1, 0, 0]])

    def test_over_all_menus(self):
        calls = [opening(2, 9, 2), menu("m:a>0"), event(1, ONE), event(2, ONE), menu("m:b>0"), SUMS, event(3, ONE),
                 SUMS, menu("?"), SUMS, menu(""), event(4), SUMS, menu("m:!b>0"), event(5), event(7), SUMS]
        self.assertEqual([answer for answer in asked(*calls) if len(answer) == 6],
                         [[0, 2, 1, 0, 1, 0], [0, 3, 1, 1, 1, 0], [0, 3, 1, 1, 1, 0], [0, 4, 1, 2, 1, 0],
                          [0, 6, 2, 2, 1, 1]])

    def test_behind_a_second_open(self):
        first = [opening(), menu("m:a>0"), event(1, ONE), event(2)]
        self.assertEqual(self.summed(*first, opening()), [0] * 6)
        self.assertEqual(self.summed(*first, opening(), menu("m:a>0"), event(1, ONE)), [0, 1, 1, 0, 0, 0])
        self.assertEqual(self.summed(*first, opening(window=0)), [0, 2, 1, 1, 0, 0])

    def test_refused_events_count_nowhere(self):
        refused = [event(5, ONE), event(4, ONE), event(-1, ONE), bare_event(9, 65), bare_event(9, -1),
                   event(9, ONE, (8, 0, 0)), event(9, (0, 65536, 0)), event(9, (0, 0, -1))]
        first = [opening(), menu("m:a>0/2\nn:!a>0"), event(4, ONE), event(5, ONE)]
        asks = [counts(0), counts(1), SUMS, FEATURES, line(0)]
        plain = asked(*first, *asks)
        self.assertEqual(plain[4:7], [[0, 2, 1, 1], [0, 0, 0, 0], [0, 2, 1, 1, 0, 0]])
        self.assertEqual(asked(*first, *refused, *asks)[-5:], plain[-5:])
        self.assertEqual(self.summed(opening(), event(1), event(2, ONE)), [0] * 6)

    def test_events_are_the_sum_of_the_others(self):
        # Requirement 7.
        for seed in range(60):
            dice = random.Random(seed)
            first = [opening(dice.randint(0, 5), dice.randint(1, 9), dice.randint(1, 2)), menu("m:a>0/2\nn:2a>0")]
            total = dice.randint(0, 50)
            events = [event(time, *[ONE] * dice.randint(0, 2)) for time in range(total)]
            found = asked(*first, *events, SUMS)
            reasons = [answer[4] for answer in found[2:-1]]
            self.assertEqual(found[-1], [0, total] + [reasons.count(reason) for reason in range(4)])
            self.assertEqual(found[-1][1], sum(found[-1][2:]))


class Asking(unittest.TestCase):
    def test_changes_nothing(self):
        asks = [counts(0), counts(2), SUMS, FEATURES, line(1), line(2), counts(-1), line(-1)]
        plain = [opening(2, 9, 2), menu("m:a>0/2\np:^m|b>0&?>1"), net(b2=3), event(1, ONE), event(2, ONE),
                 event(3, (1, 4, 0)), event(5, ONE)]
        between = []
        for call in plain:
            between += [call] + asks[:7]
        self.assertEqual(asked(*between)[::8], asked(*plain))
        self.assertEqual(asked(*plain, *asks, *asks)[-8:], asked(*plain, *asks)[-8:])


if __name__ == "__main__":
    unittest.main()
