"""The table of simple conditions, and `!`, `&` and `|`."""

import itertools
import unittest

from helper import asked, event, holding, holds, menu, objects_of_kind, opening


class Counts(unittest.TestCase):
    def test_at_least_n_above_the_threshold(self):
        objects = objects_of_kind("c", 10, 11, 12)
        for number, above, expected in ((1, 9, True), (1, 11, True), (1, 12, False), (2, 10, True), (2, 11, False),
                                        (3, 9, True), (3, 10, False), (4, 0, False)):
            with self.subTest(number=number, above=above):
                self.assertIs(holds("%d c>%d" % (number, above), *objects), expected)

    def test_without_a_number_it_is_1(self):
        self.assertTrue(holds("c>9", (2, 10, 0)))
        self.assertFalse(holds("c>10", (2, 10, 0)))
        self.assertFalse(holds("c>0", (2, 0, 0)))
        self.assertFalse(holds("c>0"))

    def test_only_the_kind_counts(self):
        for kind, letter in enumerate("abcdefgh"):
            for other, asked_letter in enumerate("abcdefgh"):
                self.assertIs(holds(asked_letter + ">4", (kind, 5, 0)), kind == other)

    def test_bounds(self):
        self.assertFalse(holds("a>65535", (0, 65535, 0)))
        self.assertTrue(holds("a>65534", (0, 65535, 0)))
        self.assertTrue(holds("16a>0", *objects_of_kind("a", *[1] * 16)))
        self.assertFalse(holds("16a>0", *objects_of_kind("a", *[1] * 15)))


class Sums(unittest.TestCase):
    def test_sum_is_greater(self):
        objects = objects_of_kind("b", 3, 4, 5) + objects_of_kind("a", 100)
        self.assertTrue(holds("+b>11", *objects))
        self.assertFalse(holds("+b>12", *objects))
        self.assertFalse(holds("+c>0", *objects))
        self.assertFalse(holds("+b>0", (1, 0, 0)))

    def test_great_sums(self):
        objects = objects_of_kind("a", 65535, 34464)
        self.assertFalse(holds("+a>99999", *objects))
        self.assertTrue(holds("+a>99998", *objects))
        self.assertTrue(holds("+a>99999", *objects_of_kind("a", *[65535] * 64)))

    def test_all_objects_count(self):
        objects = objects_of_kind("a", *[1] * 64)
        self.assertTrue(holds("+a>63", *objects))
        self.assertFalse(holds("+a>64", *objects))


class Distances(unittest.TestCase):
    def distance(self, one, other):
        """The distance, as the bounds of `<` show it."""
        objects = ((0, 1, one), (1, 1, other))
        return next(below - 1 for below in range(514) if holds("a~b<%d" % below, *objects))

    def test_ring(self):
        for one, other, apart in ((0, 0, 0), (0, 1, 1), (0, 1023, 1), (1, 1022, 3), (0, 512, 512), (0, 511, 511),
                                  (0, 513, 511), (100, 612, 512), (1023, 511, 512), (3, 1020, 7), (700, 300, 400)):
            with self.subTest(one=one, other=other):
                self.assertEqual(self.distance(one, other), apart)
                self.assertEqual(self.distance(other, one), apart)

    def test_bounds(self):
        self.assertFalse(holds("a~b<0", (0, 1, 5), (1, 1, 5)))
        self.assertTrue(holds("a~b<1", (0, 1, 5), (1, 1, 5)))
        self.assertTrue(holds("a~b<513", (0, 1, 0), (1, 1, 512)))
        self.assertFalse(holds("a~b<512", (0, 1, 0), (1, 1, 512)))

    def test_needs_an_object_of_each_kind(self):
        self.assertFalse(holds("a~b<513"))
        self.assertFalse(holds("a~b<513", (0, 1, 5)))
        self.assertFalse(holds("a~b<513", (1, 1, 5)))
        self.assertFalse(holds("a~b<513", (0, 1, 5), (0, 1, 5)))
        self.assertFalse(holds("a~b<513", (0, 1, 5), (2, 1, 5)))

    def test_both_orders_of_the_kinds(self):
        for condition in ("a~b<3", "b~a<3"):
            self.assertTrue(holds(condition, (0, 1, 5), (1, 1, 7)))
            self.assertTrue(holds(condition, (1, 1, 7), (0, 1, 5)))
            self.assertFalse(holds(condition, (0, 1, 5), (1, 1, 8)))

    def test_only_the_two_kinds_count(self):
        pairs = list(itertools.combinations_with_replacement(range(8), 2))
        text = "\n".join("l%d:%s~%s<5" % (place, "abcdefgh"[one], "abcdefgh"[other])
                         for place, (one, other) in enumerate(pairs))
        for place, (one, other) in enumerate(pairs):
            found = asked(opening(), menu(text), event(1, (other, 1, 1022), (one, 1, 2), (one, 1, 500)))
            self.assertEqual(found[2][1], 2 ** place)

    def test_same_kind_needs_two_different_objects(self):
        self.assertFalse(holds("a~a<513", (0, 1, 5)))
        self.assertFalse(holds("a~a<513", (0, 1, 5), (1, 1, 5)))
        self.assertTrue(holds("a~a<1", (0, 1, 5), (0, 1, 5)))
        self.assertTrue(holds("a~a<3", (0, 1, 5), (0, 9, 7)))
        self.assertFalse(holds("a~a<2", (0, 1, 5), (0, 9, 7)))
        self.assertFalse(holds("a~a<0", (0, 1, 5), (0, 1, 5)))

    def test_any_pair_may_be_the_near_one(self):
        far = [(0, 1, 0), (0, 1, 200), (1, 1, 400), (1, 1, 600), (2, 1, 1), (2, 1, 401)]
        self.assertFalse(holds("a~b<200", *far))
        self.assertTrue(holds("a~b<201", *far))
        self.assertTrue(holds("a~b<5", *(far + [(0, 1, 604)])))
        self.assertFalse(holds("a~b<4", *(far + [(0, 1, 604)])))

    def test_values_do_not_count(self):
        self.assertTrue(holds("a~b<1", (0, 0, 5), (1, 0, 5)))


class Scores(unittest.TestCase):
    def test_greater(self):
        for score in (-99999, -6, -5, -4, -1, 0, 1, 4, 5, 6, 99999, 100000, -100000, 2 ** 30, -(2 ** 30)):
            for above in (0, 4, 5, 99999):
                with self.subTest(score=score, above=above):
                    self.assertIs(holds("?>%d" % above, score=score), score > above)
                    self.assertIs(holds("?>-%d" % above, score=score), score > -above)
                    self.assertIs(holds("? > - %05d" % above, score=score), score > -above)


class OtherLines(unittest.TestCase):
    def test_same_event(self):
        for text in ("m:a>0\nn:@m", "m:a>0\nk:b>0\nn:@m", "n1:!a>0\nm:!@n1\nn:@m&!@n1"):
            self.assertTrue(holding(text, (0, 1, 0)))
            self.assertFalse(holding(text))

    def test_holding_counts_and_not_passing(self):
        found = asked(opening(), menu("m:a>0/2\nn:@m\no:^m"), event(1, (0, 1, 0)), event(2))
        self.assertEqual(found[2:], [[1, 3, 2, 0, 0], [1, 4, 4, 0, 0]])

    def bits(self, *calls):
        return [answer[1] for answer in asked(*calls) if len(answer) == 5]

    def test_previous_event(self):
        first = [opening(), menu("m:a>0\np:^m")]
        one = (0, 1, 0)
        self.assertEqual(self.bits(*first, event(5, one), event(6), event(7)), [1, 2, 0])
        self.assertEqual(self.bits(*first, event(5, one), event(6, one), event(7, one)), [1, 3, 3])
        self.assertEqual(self.bits(*first, event(5, one), event(7)), [1, 0])
        self.assertEqual(self.bits(*first, event(5, one), event(7), event(8)), [1, 0, 0])
        self.assertEqual(self.bits(*first, event(5), event(6, one), event(7)), [0, 1, 2])
        self.assertEqual(self.bits(*first, event(0, one), event(1)), [1, 2])
        last = 2 ** 63 - 1
        self.assertEqual(self.bits(*first, event(last - 1, one), event(last)), [1, 2])

    def test_first_event_has_none_before(self):
        self.assertEqual(self.bits(opening(), menu("m:!a>9\np:^m"), event(0)), [1])
        self.assertEqual(self.bits(opening(), menu("m:!a>9\np:^m"), event(1)), [1])

    def test_equal_times_are_refused_and_count_for_nothing(self):
        one = (0, 1, 0)
        found = asked(opening(), menu("m:a>0\np:^m"), event(5, one), event(5), event(4), event(6))
        self.assertEqual(found[2:], [[1, 1, 1, 0, 0], [-3], [-3], [1, 2, 2, 0, 0]])
        found = asked(opening(), menu("m:a>0\np:^m"), event(5), event(5, one), event(6, (0, 70000, 0)), event(6))
        self.assertEqual(found[2:], [[0, 0, 0, 0, 1], [-3], [-2], [0, 0, 0, 0, 1]])

    def test_behind_a_new_menu(self):
        one = (0, 1, 0)
        text = menu("m:a>0\np:^m")
        self.assertEqual(self.bits(opening(), text, event(5, one), text, event(6), event(7)), [1, 0, 0])
        self.assertEqual(self.bits(opening(), text, event(5, one), text, event(6, one), event(7)), [1, 1, 2])
        self.assertEqual(self.bits(opening(), text, event(5, one), menu(""), text, event(6)), [1, 0])
        self.assertEqual(self.bits(opening(), menu("k:a>0"), event(5, one), text, event(6)), [1, 0])

    def test_behind_a_refused_menu(self):
        found = self.bits(opening(), menu("m:a>0\np:^m"), event(5, (0, 1, 0)), menu("m:"), event(6))
        self.assertEqual(found, [1, 2])

    def test_chain_over_events(self):
        text = "m:a>0\np:^m\nq:^p\nr:^q|@p"
        calls = [event(1, (0, 1, 0)), event(2), event(3), event(4), event(5)]
        self.assertEqual(self.bits(opening(), menu(text), *calls), [1, 10, 4, 8, 0])

    def test_held_counts_also_for_events_that_are_not_kept(self):
        found = self.bits(opening(100, 100, 1), menu("m:a>0\np:^m"), event(1, (0, 1, 0)), event(2, (0, 1, 0)), event(3))
        self.assertEqual(found, [1, 3, 2])


class Operators(unittest.TestCase):
    def check(self, condition, meaning):
        letters = "abcd"
        for flags in itertools.product((False, True), repeat=4):
            objects = [(kind, 1, 0) for kind in range(4) if flags[kind]]
            text = condition
            for letter in letters:
                text = text.replace(letter, letter + ">0")
            with self.subTest(condition=condition, flags=flags):
                self.assertIs(holds(text, *objects), bool(meaning(*flags)))

    def test_not(self):
        self.check("!a", lambda a, b, c, d: not a)
        self.check("!!a", lambda a, b, c, d: a)
        self.check("!!!a", lambda a, b, c, d: not a)
        self.check("!(a)", lambda a, b, c, d: not a)

    def test_not_binds_before_all_others(self):
        self.check("!a&b", lambda a, b, c, d: (not a) and b)
        self.check("!a|b", lambda a, b, c, d: (not a) or b)
        self.check("a&!b|c", lambda a, b, c, d: (a and not b) or c)
        self.check("!(a&b)", lambda a, b, c, d: not (a and b))
        self.check("!(a|b)&c", lambda a, b, c, d: not (a or b) and c)
        self.check("!(a)&b", lambda a, b, c, d: (not a) and b)
        self.check("!!(!a|b)|c", lambda a, b, c, d: ((not a) or b) or c)

    def test_and_binds_before_or(self):
        self.check("a&b|c", lambda a, b, c, d: (a and b) or c)
        self.check("a|b&c", lambda a, b, c, d: a or (b and c))
        self.check("a&b|c&d", lambda a, b, c, d: (a and b) or (c and d))
        self.check("a|b&c|d", lambda a, b, c, d: a or (b and c) or d)
        self.check("a&b&c|d", lambda a, b, c, d: (a and b and c) or d)

    def test_rows(self):
        self.check("a&b&c&d", lambda a, b, c, d: a and b and c and d)
        self.check("a|b|c|d", lambda a, b, c, d: a or b or c or d)

    def test_parentheses(self):
        self.check("(a|b)&c", lambda a, b, c, d: (a or b) and c)
        self.check("a&(b|c)", lambda a, b, c, d: a and (b or c))
        self.check("a&(b|c)&d", lambda a, b, c, d: a and (b or c) and d)
        self.check("(a|b)&(c|d)", lambda a, b, c, d: (a or b) and (c or d))
        self.check("((a|b)&c|d)", lambda a, b, c, d: ((a or b) and c) or d)
        self.check("!(a&(b|!(c&d)))", lambda a, b, c, d: not (a and (b or not (c and d))))
        self.check("(a&b|c)&d", lambda a, b, c, d: ((a and b) or c) and d)


if __name__ == "__main__":
    unittest.main()
