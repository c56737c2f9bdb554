"""Operation 4, event: what is refused, the prescale and the reasons."""

import itertools
import unittest

from helper import NOT_LATER, NO_MENU, OUT_OF_RANGE, asked, bare_event, event, last_answer, menu, net, opening

ONE = (0, 1, 0)


class Refusals(unittest.TestCase):
    def answered(self, *calls):
        return last_answer(opening(), menu("m:!a>70"), *calls)

    def test_time(self):
        self.assertEqual(self.answered(event(0)), [1, 1, 1, 0, 0])
        self.assertEqual(self.answered(event(2 ** 63 - 1)), [1, 1, 1, 0, 0])
        self.assertEqual(self.answered(event(-1)), [OUT_OF_RANGE])
        self.assertEqual(self.answered(event(-(2 ** 63))), [OUT_OF_RANGE])

    def test_number_of_objects(self):
        self.assertEqual(self.answered(event(0, *[(0, 0, 0)] * 64)), [1, 1, 1, 0, 0])
        self.assertEqual(self.answered(bare_event(0, 0)), [1, 1, 1, 0, 0])
        self.assertEqual(self.answered(bare_event(0, -1)), [OUT_OF_RANGE])
        self.assertEqual(self.answered(bare_event(0, 65)), [OUT_OF_RANGE])

    def test_fields(self):
        for good in ((0, 0, 0), (7, 65535, 1023), (7, 0, 0), (1, 65535, 0), (1, 0, 1023)):
            self.assertEqual(self.answered(event(0, good))[0], 1)
        for bad in ((-1, 0, 0), (8, 0, 0), (0, -1, 0), (0, 65536, 0), (0, 0, -1), (0, 0, 1024)):
            for place in range(4):
                objects = [(0, 0, 0)] * 3
                objects.insert(place, bad)
                with self.subTest(bad=bad, place=place):
                    self.assertEqual(self.answered(event(0, *objects)), [OUT_OF_RANGE])
            self.assertEqual(self.answered(event(0, *[(0, 0, 0)] * 63, bad)), [OUT_OF_RANGE])

    def test_no_menu(self):
        self.assertEqual(last_answer(opening(), event(0)), [NO_MENU])
        self.assertEqual(last_answer(opening(), menu(""), event(0)), [0, 0, 0, 0, 1])

    def test_times_grow(self):
        self.assertEqual(self.answered(event(5), event(5)), [NOT_LATER])
        self.assertEqual(self.answered(event(5), event(4)), [NOT_LATER])
        self.assertEqual(self.answered(event(0), event(0)), [NOT_LATER])
        self.assertEqual(self.answered(event(5), event(6)), [1, 1, 1, 0, 0])
        self.assertEqual(self.answered(event(2 ** 63 - 1), event(2 ** 63 - 1)), [NOT_LATER])

    def test_times_grow_over_menus_and_over_events_that_are_not_kept(self):
        self.assertEqual(self.answered(event(5), menu("m:!a>0"), event(5)), [NOT_LATER])
        self.assertEqual(self.answered(event(5, (0, 99, 0)), event(5)), [NOT_LATER])

    def test_order_of_the_refusals(self):
        self.assertEqual(asked(opening(), event(-1), bare_event(0, 65), event(0, (8, 0, 0)), event(0)),
                         [[0], [-2], [-2], [-2], [-6]])
        self.assertEqual(self.answered(event(5), event(-1)), [OUT_OF_RANGE])
        self.assertEqual(self.answered(event(5), bare_event(5, 65)), [OUT_OF_RANGE])
        self.assertEqual(self.answered(event(5), event(5, (0, 0, 1024))), [OUT_OF_RANGE])

    def test_refused_event_changes_nothing(self):
        before = [opening(3, 9, 2), menu("m:a>0/2\np:^m\nq:!a>9"), net(b2=1), event(5, ONE), event(7, ONE)]
        after = [event(8, ONE), event(9, ONE), event(14, ONE)]
        refused = [event(7, ONE), event(6, ONE), event(-1, ONE), bare_event(8, 65), bare_event(9, -1),
                   event(8, ONE, (8, 0, 0))]
        plain = asked(*before, *after)
        self.assertEqual(asked(*before, *refused, *after), plain[:5] + [[-3], [-3]] + [[-2]] * 4 + plain[5:])


class Prescale(unittest.TestCase):
    def passing(self, text, events):
        found = asked(opening(), menu(text), *[event(time, *objects) for time, objects in enumerate(events)])
        return [answer[2] for answer in found[2:]]

    def test_only_each_nth_event_passes(self):
        self.assertEqual(self.passing("m:a>0/1", [[ONE]] * 3), [1, 1, 1])
        self.assertEqual(self.passing("m:a>0", [[ONE]] * 3), [1, 1, 1])
        self.assertEqual(self.passing("m:a>0/2", [[ONE]] * 6), [0, 1, 0, 1, 0, 1])
        self.assertEqual(self.passing("m:a>0/3", [[ONE]] * 7), [0, 0, 1, 0, 0, 1, 0])
        self.assertEqual(self.passing("m:a>0/65535", [[ONE]] * 50), [0] * 50)

    def test_only_events_for_which_it_holds_count(self):
        self.assertEqual(self.passing("m:a>0/2", [[ONE], [], [], [ONE], [], [ONE], [ONE], []]),
                         [0, 0, 0, 1, 0, 0, 1, 0])

    def test_each_line_has_its_own_count(self):
        text = "m:a>0/2\nn:b>0/2\no:a>0|b>0/3"
        events = [[ONE], [(1, 1, 0)], [ONE], [(1, 1, 0)], [ONE, (1, 1, 0)], [ONE]]
        self.assertEqual(self.passing(text, events), [0, 0, 5, 2, 0, 5])

    def test_events_that_are_not_kept_count(self):
        found = asked(opening(65535, 1, 1), menu("m:a>0/2\nn:b>0"), event(0, (1, 1, 0)),
                      *[event(time, ONE) for time in range(1, 5)])
        self.assertEqual(found[3:], [[0, 1, 0, 0, 1], [0, 1, 1, 0, 2], [0, 1, 0, 0, 1], [0, 1, 1, 0, 2]])

    def test_held_but_not_passed_is_reason_1(self):
        self.assertEqual(last_answer(opening(), menu("m:a>0/2"), event(0, ONE)), [0, 1, 0, 0, 1])


class Reasons(unittest.TestCase):
    def reasons(self, first, times, text="m:a>0"):
        """Times below 0 stand for events without objects."""
        calls = [event(abs(time), *([] if time < 0 else [ONE])) for time in times]
        found = asked(first, menu(text), *calls)[2:]
        for answer in found:
            self.assertEqual(answer[0], 1 if answer[4] == 0 else 0)
        return [answer[4] for answer in found]

    def test_no_line_passes(self):
        self.assertEqual(self.reasons(opening(), [-1, 2, -3]), [1, 0, 1])

    def test_dead_time(self):
        self.assertEqual(self.reasons(opening(dead=3), [5, 6, 7, 8, 9, 10, 11]), [0, 2, 2, 0, 2, 2, 0])
        self.assertEqual(self.reasons(opening(dead=0), [5, 6, 7]), [0, 0, 0])
        self.assertEqual(self.reasons(opening(dead=1), [5, 6, 7]), [0, 0, 0])
        self.assertEqual(self.reasons(opening(dead=2), [5, 6, 7]), [0, 2, 0])
        self.assertEqual(self.reasons(opening(dead=65535), [0, 65534, 65535]), [0, 2, 0])

    def test_only_kept_events_have_a_dead_time(self):
        self.assertEqual(self.reasons(opening(dead=4), [-1, 2, 3, 5, 6, -9, 10]), [1, 0, 2, 2, 0, 1, 0])

    def test_window(self):
        self.assertEqual(self.reasons(opening(window=5, most=2), [1, 2, 3, 5, 6, 7, 8, 11]), [0, 0, 3, 3, 0, 0, 3, 0])
        self.assertEqual(self.reasons(opening(window=1, most=1), [1, 2, 3]), [0, 0, 0])
        self.assertEqual(self.reasons(opening(window=2, most=1), [1, 2, 3]), [0, 3, 0])
        self.assertEqual(self.reasons(opening(window=65535, most=1), [0, 65534, 65535]), [0, 3, 0])
        self.assertEqual(self.reasons(opening(window=65535, most=3), [0, 1, 2, 3, 65534, 65535]), [0, 0, 0, 3, 3, 0])

    def test_only_kept_events_fill_the_window(self):
        self.assertEqual(self.reasons(opening(window=9, most=2), [-1, -2, 3, -4, 5, 6]), [1, 1, 0, 1, 0, 3])

    def test_greatest_most(self):
        self.assertEqual(self.reasons(opening(window=65535, most=64), range(58)), [0] * 58)
        self.assertEqual(self.reasons(opening(window=65535, most=57), range(58)), [0] * 57 + [3])

    def test_first_reason_that_applies(self):
        both = opening(dead=4, window=10, most=1)
        self.assertEqual(self.reasons(both, [1, 2, -3, 5, -6, 10, 11]), [0, 2, 1, 3, 1, 3, 0])
        longer = opening(dead=10, window=4, most=1)
        self.assertEqual(self.reasons(longer, [1, 2, -3, 5, -6, 10, 11]), [0, 2, 1, 2, 1, 2, 0])

    def test_dead_time_counts_from_the_last_kept_event(self):
        self.assertEqual(self.reasons(opening(dead=3, window=4, most=1), [1, 4, 5, 7, 8, 9]), [0, 3, 0, 2, 3, 0])

    def test_late_times(self):
        last = 2 ** 63 - 1
        self.assertEqual(self.reasons(opening(dead=65535), [last - 9, last]), [0, 2])
        self.assertEqual(self.reasons(opening(window=65535, most=1), [last - 9, last]), [0, 3])
        self.assertEqual(self.reasons(opening(dead=9, window=9, most=1), [last - 9, last]), [0, 0])

    def test_one_passing_line_is_enough(self):
        self.assertEqual(last_answer(opening(), menu("m:b>0\nn:a>0\no:a>0/2"), event(1, ONE)), [1, 6, 2, 0, 0])


class OrderOfObjects(unittest.TestCase):
    def test_does_not_count(self):
        objects = [(0, 5, 10), (0, 9, 1020), (1, 7, 3), (1, 2, 500), (0, 9, 300)]
        network = net(mul=3, down=2, w1=[(k * 7) % 11 - 5 for k in range(512)], w2=[3, -1] * 8)
        text = menu("m:2a>8&a~b<10\nn:+b>8|!a~a<20\no:?>3\np:b~a<7")
        found = {tuple(last_answer(opening(), network, text, event(1, *order)))
                 for order in itertools.permutations(objects)}
        self.assertEqual(len(found), 1)


if __name__ == "__main__":
    unittest.main()
