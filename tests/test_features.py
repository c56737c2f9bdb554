"""Operation 7, features."""

import itertools
import unittest

from helper import (FEATURES, NO_MENU, NO_TRIGGER, OUT_OF_RANGE, asked, bare_event, event, last_answer, menu, net,
                    objects_of_kind, opening)

NONE = [0] * 33


class FeaturesOfTheLastEvent(unittest.TestCase):
    def features(self, *objects, shift=0):
        answer = last_answer(opening(), menu(""), net(shift=shift), event(1, *objects), FEATURES)
        self.assertEqual((answer[0], len(answer)), (0, 33))
        return answer[1:]

    def test_greatest_values_of_each_kind(self):
        for kind, letter in enumerate("abcdefgh"):
            objects = objects_of_kind(letter, 3, 50, 1, 20, 9, 7)
            self.assertEqual(self.features(*objects), [0] * (4 * kind) + [50, 20, 9, 7] + [0] * (28 - 4 * kind))

    def test_all_kinds_at_once(self):
        objects = [(kind, 10 * kind + value, 0) for value in (1, 4, 2, 5, 3) for kind in range(8)]
        self.assertEqual(self.features(*objects), [10 * kind + value for kind in range(8) for value in (5, 4, 3, 2)])

    def test_fewer_than_four_objects(self):
        self.assertEqual(self.features(), [0] * 32)
        self.assertEqual(self.features((1, 6, 0), (1, 8, 0)), [0] * 4 + [8, 6, 0, 0] + [0] * 24)
        self.assertEqual(self.features((7, 0, 0), (7, 1, 0), (7, 0, 0)), [0] * 28 + [1, 0, 0, 0])

    def test_equal_values(self):
        self.assertEqual(self.features(*[(0, 5, 0)] * 3)[:4], [5, 5, 5, 0])
        self.assertEqual(self.features(*[(3, 5, 0)] * 64)[12:16], [5, 5, 5, 5])

    def test_limit_of_255(self):
        self.assertEqual(self.features(*objects_of_kind("a", 254, 255, 256, 65535))[:4], [255, 255, 255, 254])

    def test_shift_rounds_down(self):
        self.assertEqual(self.features(*objects_of_kind("b", 8, 7, 4, 3), shift=2)[4:8], [2, 1, 1, 0])
        self.assertEqual(self.features(*objects_of_kind("b", 1023, 1024, 1019, 1020), shift=2)[4:8],
                         [255, 255, 255, 254])
        self.assertEqual(self.features(*objects_of_kind("h", 65535, 32768, 32767, 0), shift=15)[28:], [1, 1, 0, 0])

    def test_order_and_positions_do_not_count(self):
        objects = [(0, 5, 10), (0, 9, 1020), (1, 7, 3), (0, 2, 500), (0, 9, 300)]
        found = {tuple(self.features(*order)) for order in itertools.permutations(objects)}
        self.assertEqual(found, {(9, 9, 5, 2, 7) + (0,) * 27})


class WhichEvent(unittest.TestCase):
    def test_without_a_trigger(self):
        self.assertEqual(asked(FEATURES, opening(most=0), FEATURES), [[NO_TRIGGER], [OUT_OF_RANGE], [NO_TRIGGER]])

    def test_without_an_event(self):
        self.assertEqual(asked(opening(), FEATURES, menu(""), FEATURES, menu("m:a>0"), FEATURES, net(shift=3), FEATURES),
                         [[0], NONE, [0], NONE, [1], NONE, [0], NONE])
        self.assertEqual(asked(opening(), event(1, (0, 9, 0)), FEATURES), [[0], [NO_MENU], NONE])

    def test_each_event_whatever_its_reason(self):
        first = [opening(3, 9, 1), menu("m:a>0")]
        for time, value in ((2, 7), (4, 8), (30, 9)):
            found = last_answer(*first, event(1, (0, 5, 0)), event(time, (0, value, 0), (1, 2, 0)), FEATURES)
            self.assertEqual(found, [0, value, 0, 0, 0, 2] + [0] * 27)
        self.assertEqual(last_answer(*first, event(1, (0, 5, 0)), event(2, (2, 6, 0)), FEATURES),
                         [0] * 9 + [6] + [0] * 23)
        self.assertEqual(last_answer(*first, event(1, (0, 5, 0)), event(2), FEATURES), NONE)

    def test_behind_refused_events(self):
        first = [opening(), menu(""), event(5, (0, 9, 0))]
        for refused in (event(5, (1, 3, 0)), event(4), event(-1), bare_event(6, 65), bare_event(6, -1),
                        event(6, (0, 3, 0), (8, 0, 0)), event(6, (0, 3, 1024))):
            self.assertEqual(last_answer(*first, refused, FEATURES), [0, 9] + [0] * 31)

    def test_behind_a_net_with_another_shift(self):
        calls = [opening(), menu(""), event(5, (0, 600, 0), (0, 9, 0))]
        for shift in (1, 0, 3, 15, 2):
            calls += [net(shift=shift), FEATURES]
        self.assertEqual([answer[:3] for answer in asked(*calls)[4::2]],
                         [[0, 255, 4], [0, 255, 9], [0, 75, 1], [0, 0, 0], [0, 150, 2]])

    def test_behind_a_refused_net(self):
        calls = [opening(), menu(""), net(shift=1), event(5, (0, 9, 0)), net(shift=2, mul=0), FEATURES,
                 net(shift=16), FEATURES, net(shift=2, w2={15: 32768}), FEATURES]
        self.assertEqual([answer[:2] for answer in asked(*calls)[5::2]], [[0, 4]] * 3)

    def test_behind_a_second_menu(self):
        first = [opening(), menu("m:a>0"), event(5, (0, 9, 0))]
        for more in (menu("m:b>0"), menu(""), menu("?")):
            self.assertEqual(last_answer(*first, more, FEATURES), [0, 9] + [0] * 31)

    def test_behind_a_second_open(self):
        first = [opening(), menu("m:a>0"), net(shift=1), event(5, (0, 9, 0))]
        self.assertEqual(last_answer(*first, opening(), FEATURES), NONE)
        self.assertEqual(last_answer(*first, opening(), menu(""), event(1, (0, 9, 0)), FEATURES), [0, 9] + [0] * 31)
        self.assertEqual(last_answer(*first, opening(most=0), FEATURES), [0, 4] + [0] * 31)


if __name__ == "__main__":
    unittest.main()
