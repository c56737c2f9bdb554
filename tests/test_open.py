"""Operation 1, open."""

import unittest

from helper import NO_MENU, asked, event, last_answer, menu, net, opening


class Ranges(unittest.TestCase):
    def test_bounds_that_are_allowed(self):
        for dead, window, most in ((0, 1, 1), (65535, 65535, 64), (0, 65535, 1), (65535, 1, 64), (1, 2, 2)):
            with self.subTest(dead=dead, window=window, most=most):
                self.assertEqual(asked(opening(dead, window, most)), [[0]])

    def test_bounds_that_are_refused(self):
        for dead, window, most in ((-1, 1, 1), (65536, 1, 1), (0, 0, 1), (0, -1, 1), (0, 65536, 1),
                                   (0, 1, 0), (0, 1, -1), (0, 1, 65), (-1, 0, 0)):
            with self.subTest(dead=dead, window=window, most=most):
                self.assertEqual(asked(opening(dead, window, most)), [[-2]])


class SecondOpen(unittest.TestCase):
    def test_is_without_menu(self):
        self.assertEqual(last_answer(opening(), menu("m:a>0"), opening(), event(1)), [NO_MENU])

    def test_is_without_events(self):
        found = asked(opening(), menu("m:a>0"), event(9, (0, 1, 0)), opening(), menu("m:a>0\np:^m"),
                      event(9, (0, 1, 0)), opening(), menu("m:a>0\np:^m"), event(10, (0, 1, 0)), event(10))
        self.assertEqual(found[5], [1, 1, 1, 0, 0])
        self.assertEqual(found[8:], [[1, 1, 1, 0, 0], [-3]])

    def test_is_without_kept_events(self):
        found = asked(opening(100, 100, 1), menu("m:a>0"), event(9, (0, 1, 0)), event(10, (0, 1, 0)),
                      opening(100, 100, 1), menu("m:a>0"), event(11, (0, 1, 0)), event(12, (0, 1, 0)))
        self.assertEqual([answer[-1] for answer in found if len(answer) == 5], [0, 2, 0, 2])

    def test_is_without_counts_of_lines(self):
        found = asked(opening(), menu("m:a>0/2"), event(1, (0, 1, 0)), opening(), menu("m:a>0/2"),
                      event(2, (0, 1, 0)), event(3, (0, 1, 0)))
        self.assertEqual([answer[2] for answer in found if len(answer) == 5], [0, 0, 1])

    def test_sets_the_network_back(self):
        odd = net(shift=3, mul=5, down=1, b2=7, b1=[9] * 16, w1=[2] * 512, w2=[3] * 16)
        found = asked(opening(), odd, menu(""), event(1, (0, 80, 0)), opening(), menu(""), event(1, (0, 80, 0)))
        self.assertNotEqual(found[3][3], 0)
        self.assertEqual(found[6], [0, 0, 0, 0, 1])

    def test_takes_the_new_arguments(self):
        found = asked(opening(0, 1, 1), opening(3, 5, 1), menu("m:!a>0"), *[event(time) for time in range(6)])
        self.assertEqual([answer[-1] for answer in found[3:]], [0, 2, 2, 3, 3, 0])

    def test_refused_open_changes_nothing(self):
        found = asked(opening(3, 5, 1), menu("m:!a>0\np:^m"), net(b2=6), event(0), opening(0, 1, 65), event(1),
                      event(1), event(3), event(5))
        self.assertEqual(found[3:], [[1, 1, 1, 6, 0], [-2], [0, 3, 3, 6, 2], [-3], [0, 1, 1, 6, 3], [1, 1, 1, 6, 0]])


class FreshNetwork(unittest.TestCase):
    def test_score_is_0(self):
        self.assertEqual(last_answer(opening(), menu("m:?>0\np:?>-1"), event(1, (0, 65535, 0))), [1, 2, 2, 0, 0])


if __name__ == "__main__":
    unittest.main()
