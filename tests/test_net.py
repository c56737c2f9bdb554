"""Operation 3, net: features, hidden values and score."""

import unittest

from helper import asked, event, last_answer, menu, net, objects_of_kind, opening


def score(network, *objects):
    return last_answer(opening(), network, menu(""), event(1, *objects))[3]


def feature(place, shift, *objects):
    """A feature, as the one hidden value of a network shows it, below 0 too."""
    return score(net(shift=shift, b2=-9, b1={0: 9}, w1={place: 1}, w2={0: 1}), *objects)


class Ranges(unittest.TestCase):
    def check(self, answer, networks):
        for network in networks:
            with self.subTest(network=network[:5]):
                self.assertEqual(asked(opening(), network), [[0], [answer]])

    def test_single_parameters(self):
        self.check(0, [net(shift=0), net(shift=15), net(mul=1), net(mul=65535), net(down=0), net(down=24),
                       net(b2=-(2 ** 30)), net(b2=2 ** 30)])
        self.check(-2, [net(shift=-1), net(shift=16), net(mul=0), net(mul=-1), net(mul=65536), net(down=-1),
                        net(down=25), net(b2=-(2 ** 30) - 1), net(b2=2 ** 30 + 1)])

    def test_each_place_of_b1_and_w2(self):
        for place in range(16):
            self.check(0, [net(b1={place: -(2 ** 24)}), net(b1={place: 2 ** 24}),
                           net(w2={place: -32768}), net(w2={place: 32767})])
            self.check(-2, [net(b1={place: -(2 ** 24) - 1}), net(b1={place: 2 ** 24 + 1}),
                            net(w2={place: -32769}), net(w2={place: 32768})])

    def test_places_of_w1(self):
        for place in (0, 1, 31, 32, 255, 256, 510, 511):
            self.check(0, [net(w1={place: -128}), net(w1={place: 127})])
            self.check(-2, [net(w1={place: -129}), net(w1={place: 128})])

    def test_all_at_their_bounds(self):
        self.check(0, [net(15, 65535, 24, 2 ** 30, [2 ** 24] * 16, [127] * 512, [32767] * 16),
                       net(0, 1, 0, -(2 ** 30), [-(2 ** 24)] * 16, [-128] * 512, [-32768] * 16)])

    def test_refused_net_changes_nothing(self):
        good = net(shift=1, mul=3, down=2, b2=5, b1={0: 7}, w1={0: 2}, w2={0: -1})
        plain = asked(opening(), good, menu(""), event(1, (0, 9, 0)))[3]
        for bad in (net(shift=16), net(mul=0), net(down=25), net(b2=2 ** 30 + 1), net(b1={15: 2 ** 24 + 1}),
                    net(w1={511: 128}), net(w2={15: 32768})):
            self.assertEqual(last_answer(opening(), good, menu(""), bad, event(1, (0, 9, 0))), plain)

    def test_net_replaces_all_parameters(self):
        full = net(3, 9, 1, 70, [5] * 16, [6] * 512, [7] * 16)
        found = asked(opening(), full, menu(""), event(1, (0, 9, 0)), net(), event(2, (0, 9, 0)))
        self.assertNotEqual(found[3][3], 0)
        self.assertEqual(found[5][3], 0)

    def test_net_leaves_menu_and_events(self):
        found = asked(opening(5, 9, 1), menu("m:!a>0/2\np:^m"), event(1), net(b2=3), event(2), net(), event(2))
        self.assertEqual(found[2:], [[0, 1, 0, 0, 1], [0], [1, 3, 3, 3, 0], [0], [-3]])


class Features(unittest.TestCase):
    def test_greatest_values_of_each_kind(self):
        for kind, letter in enumerate("abcdefgh"):
            objects = objects_of_kind(letter, 3, 50, 1, 20, 9, 7)
            found = [feature(place, 0, *objects) for place in range(32)]
            self.assertEqual(found, [0] * (4 * kind) + [50, 20, 9, 7] + [0] * (28 - 4 * kind))

    def test_fewer_than_four_objects(self):
        self.assertEqual([feature(4 + place, 0, (1, 6, 0), (1, 8, 0)) for place in range(4)], [8, 6, 0, 0])
        self.assertEqual([feature(4 + place, 0) for place in range(4)], [0, 0, 0, 0])

    def test_equal_values(self):
        self.assertEqual([feature(place, 0, *[(0, 5, 0)] * 3) for place in range(4)], [5, 5, 5, 0])

    def test_shift_rounds_down(self):
        self.assertEqual([feature(0, 2, (0, value, 0)) for value in (0, 3, 4, 7, 8)], [0, 0, 1, 1, 2])
        self.assertEqual([feature(0, 15, (0, value, 0)) for value in (32767, 32768, 65535)], [0, 1, 1])

    def test_limit_of_255(self):
        # Moved down by 200, a feature would show itself above 255, too.
        def beyond(value, shift):
            return score(net(shift=shift, b1={0: -200}, w1={0: 1}, w2={0: 1}), (0, value, 0))
        self.assertEqual([beyond(value, 0) for value in (254, 255, 256, 257, 65535)], [54, 55, 55, 55, 55])
        self.assertEqual([beyond(value, 8) for value in (65279, 65280, 65535)], [54, 55, 55])
        self.assertEqual([beyond(value, 7) for value in (32639, 32640, 32768)], [54, 55, 55])


class HiddenValues(unittest.TestCase):
    def hidden(self, total, mul, down):
        return score(net(mul=mul, down=down, b1={0: total}, w2={0: 1}))

    def test_rounds_down_behind_mul(self):
        self.assertEqual(self.hidden(3, 3, 1), 4)
        self.assertEqual(self.hidden(7, 1, 3), 0)
        self.assertEqual(self.hidden(8, 1, 3), 1)
        self.assertEqual(self.hidden(5, 5, 2), 6)

    def test_clamp(self):
        self.assertEqual([self.hidden(total, 1, 0) for total in (-2, -1, 0, 1, 254, 255, 256, 257)],
                         [0, 0, 0, 1, 254, 255, 255, 255])
        self.assertEqual([self.hidden(total, 1, 1) for total in (509, 510, 511, 512)], [254, 255, 255, 255])

    def test_negative_sums(self):
        self.assertEqual([self.hidden(total, 3, 2) for total in (-5, -4, -1, 0, 1, 2)], [0, 0, 0, 0, 0, 1])
        network = net(down=3, b1={0: -17, 1: 17}, w2={0: 9, 1: 9})
        self.assertEqual(score(network), 18)

    def test_greatest_parameters(self):
        self.assertEqual(self.hidden(2 ** 24, 65535, 24), 255)
        self.assertEqual(self.hidden(2 ** 24, 1, 24), 1)
        self.assertEqual(self.hidden(2 ** 24 - 1, 1, 24), 0)
        self.assertEqual(self.hidden(2 ** 24 - 1, 100, 24), 99)
        self.assertEqual(self.hidden(-(2 ** 24), 65535, 0), 0)

    def test_each_weight_has_its_place(self):
        for unit in (0, 1, 7, 15):
            for place in (0, 3, 4, 17, 31):
                objects = objects_of_kind("abcdefgh"[place // 4], *[40, 30, 20, 10][:place % 4 + 1])
                network = net(w1={32 * unit + place: 2}, w2={unit: 3})
                self.assertEqual(score(network, *objects), 6 * [40, 30, 20, 10][place % 4])

    def test_weights_may_be_negative(self):
        network = net(b1={2: 100}, w1={64: -3, 65: 2}, w2={2: 1})
        self.assertEqual(score(network, (0, 20, 0), (0, 10, 0)), 60)
        self.assertEqual(score(network, (0, 40, 0), (0, 1, 0)), 0)


class Score(unittest.TestCase):
    def test_sums_all_hidden_values(self):
        network = net(b2=-7, b1=list(range(16)), w2=[1, -2] * 8)
        self.assertEqual(score(network), -7 + sum(unit * (1, -2)[unit % 2] for unit in range(16)))

    def test_is_not_limited(self):
        self.assertEqual(score(net(b2=2 ** 30, b1=[255] * 16, w2=[32767] * 16)), 2 ** 30 + 16 * 255 * 32767)
        self.assertEqual(score(net(b2=-(2 ** 30), b1=[255] * 16, w2=[-32768] * 16)), -(2 ** 30) - 16 * 255 * 32768)

    def test_is_told_for_events_that_are_not_kept(self):
        self.assertEqual(last_answer(opening(), menu("m:a>0"), net(b2=6), event(1)), [0, 0, 0, 6, 1])

    def test_position_does_not_count(self):
        network = net(w1=[1] * 512, w2=[1] * 16)
        self.assertEqual(score(network, (0, 4, 0), (5, 6, 9)), score(network, (0, 4, 1023), (5, 6, 512)))


if __name__ == "__main__":
    unittest.main()
