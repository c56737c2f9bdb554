"""Operation 8, line: the canonical text."""

import unittest

from helper import (GREATEST, LEAST, NO_TRIGGER, OUT_OF_RANGE, asked, bare_menu, canonical, event, last_answer, line,
                    menu, net, opening, written)


class LineTests(unittest.TestCase):
    def check(self, pairs):
        """Each condition's canonical text, which is its own canonical text too."""
        for condition, due in pairs:
            with self.subTest(condition=condition):
                self.assertEqual(canonical("m:" + condition), "m:" + due)
                self.assertEqual(canonical("m:" + due), "m:" + due)


class Simple(LineTests):
    def test_spaces(self):
        self.assertEqual(canonical("  m  :  2  a  >  1  &  (  !  b  >  0  |  c  >  2  )  |  +  c  >  3  /  7  "),
                         "m:2a>1&(!b>0|c>2)|+c>3/7")
        self.check([("a ~ b < 3", "a~b<3"), ("? > - 3", "?>-3"), ("? > 3", "?>3"), ("! ! a > 1", "!!a>1")])

    def test_names(self):
        for name in ("a", "Z", "_", "__", "m007", "_0", "L_01x", "h", "abcdefghijklmno9"):
            self.assertEqual(canonical(name + ":a>1"), name + ":a>1")

    def test_counts(self):
        self.check([("a>0", "a>0"), ("a>00000", "a>0"), ("a>00010", "a>10"), ("a>65535", "a>65535"),
                    ("1a>2", "a>2"), ("01a>2", "a>2"), ("00001a>2", "a>2"), ("2a>2", "2a>2"), ("00002a>02", "2a>2"),
                    ("10a>2", "10a>2"), ("11a>2", "11a>2"), ("016h>0", "16h>0"), ("1 a>1", "a>1")])

    def test_sums(self):
        self.check([("+a>0", "+a>0"), ("+a>00000", "+a>0"), ("+h>00100", "+h>100"), ("+h>99999", "+h>99999")])

    def test_distances(self):
        self.check([("a~b<0", "a~b<0"), ("b~a<000", "b~a<0"), ("h~h<00513", "h~h<513"), ("c~d<01", "c~d<1")])

    def test_scores(self):
        self.check([("?>0", "?>0"), ("?>-0", "?>0"), ("?>-00000", "?>0"), ("?>00", "?>0"), ("?>-1", "?>-1"),
                    ("?>-00010", "?>-10"), ("?>00010", "?>10"), ("?>99999", "?>99999"), ("?>-99999", "?>-99999")])

    def test_kinds(self):
        for letter in "abcdefgh":
            self.check([("%s>1" % letter, "%s>1" % letter), ("3%s>1" % letter, "3%s>1" % letter),
                        ("+%s>1" % letter, "+%s>1" % letter), ("%s~a<1" % letter, "%s~a<1" % letter),
                        ("a~%s<1" % letter, "a~%s<1" % letter)])

    def test_prescales(self):
        self.check([("a>1/1", "a>1"), ("a>1/00001", "a>1"), ("a>1/2", "a>1/2"), ("a>1/00010", "a>1/10"),
                    ("a>1/65535", "a>1/65535"), ("(a>1|b>2)/1", "a>1|b>2"), ("(a>1|b>2)/03", "a>1|b>2/3"),
                    ("!(a>1|b>2)/3", "!(a>1|b>2)/3"), ("a>1/11", "a>1/11")])

    def test_names_of_lines_before(self):
        text = "\n \np_1:a>0\n\n  \nq:@ p_1\n\nr : ^ q & ! @p_1 / 002\n\ns:^r|@q\n"
        for number, due in enumerate(("p_1:a>0", "q:@p_1", "r:^q&!@p_1/2", "s:^r|@q")):
            self.assertEqual(canonical(text, number), due)

    def test_names_of_kinds_are_names_too(self):
        self.assertEqual(canonical("b:a>0\na:b>0\nc:@b&a>0&^a", 2), "c:@b&a>0&^a")

    def test_all_64_lines(self):
        rows = ["l0:a>0"] + ["l%d:@l%d&^l0/%d" % (k, k - 1, k + 1) for k in range(1, 64)]
        for first in (0, 32):
            found = asked(opening(), menu("\n".join(rows)), *[line(k) for k in range(first, first + 32)])
            self.assertEqual([written(answer) for answer in found[2:]], rows[first:first + 32])


class Parentheses(LineTests):
    def test_around_all_and_around_single_conditions(self):
        self.check([("(a>1)", "a>1"), ("((a>1))", "a>1"), ("(" * 16 + "a>1" + ")" * 16, "a>1"),
                    ("(a>1&b>2)", "a>1&b>2"), ("((a>1)|(b>2))", "a>1|b>2"), ("(a>1)&(b>2)&(c>3)", "a>1&b>2&c>3"),
                    ("(a>1)|(b>2)|(c>3)", "a>1|b>2|c>3"), ("(+a>1)&(a~b<2)&(?>-3)", "+a>1&a~b<2&?>-3")])

    def test_behind_not(self):
        self.check([("!(a>1)", "!a>1"), ("!(!(a>1))", "!!a>1"), ("!((!a>1))", "!!a>1"),
                    ("!(a>1&b>2)", "!(a>1&b>2)"), ("!((a>1&b>2))", "!(a>1&b>2)"), ("!(a>1|b>2)", "!(a>1|b>2)"),
                    ("!!(a>1|b>2)", "!!(a>1|b>2)"), ("!(!(a>1|b>2))", "!!(a>1|b>2)"), ("(!a>1)", "!a>1"),
                    ("!(!a>1&b>2)", "!(!a>1&b>2)"), ("!(+a>1)", "!+a>1"), ("!(?>-1)", "!?>-1"), ("!(a~b<1)", "!a~b<1")])

    def test_on_the_left_of_and(self):
        self.check([("(a>1&b>2)&c>3", "(a>1&b>2)&c>3"), ("(a>1|b>2)&c>3", "(a>1|b>2)&c>3"),
                    ("(!a>1)&c>3", "!a>1&c>3"), ("(a>1)&c>3", "a>1&c>3"), ("(!(a>1|b>2))&c>3", "!(a>1|b>2)&c>3"),
                    ("((a>1&b>2)&c>3)&d>4", "((a>1&b>2)&c>3)&d>4"), ("(a>1&(b>2&c>3))&d>4", "(a>1&b>2&c>3)&d>4")])

    def test_on_the_right_of_and(self):
        self.check([("a>1&(b>2&c>3)", "a>1&b>2&c>3"), ("a>1&(b>2|c>3)", "a>1&(b>2|c>3)"),
                    ("a>1&(!c>3)", "a>1&!c>3"), ("a>1&(c>3)", "a>1&c>3"), ("a>1&((b>2|c>3)&d>4)", "a>1&(b>2|c>3)&d>4"),
                    ("a>1&(b>2&(c>3&d>4))", "a>1&b>2&c>3&d>4"), ("a>1&((b>2&c>3)&d>4)", "a>1&(b>2&c>3)&d>4"),
                    ("a>1&(b>2&(c>3|d>4))", "a>1&b>2&(c>3|d>4)")])

    def test_on_the_left_of_or(self):
        self.check([("(a>1&b>2)|c>3", "a>1&b>2|c>3"), ("(a>1|b>2)|c>3", "(a>1|b>2)|c>3"), ("(!a>1)|c>3", "!a>1|c>3"),
                    ("(a>1)|c>3", "a>1|c>3"), ("((a>1|b>2)|c>3)|d>4", "((a>1|b>2)|c>3)|d>4"),
                    ("(a>1|(b>2|c>3))|d>4", "(a>1|b>2|c>3)|d>4"), ("((a>1&b>2)&c>3)|d>4", "(a>1&b>2)&c>3|d>4")])

    def test_on_the_right_of_or(self):
        self.check([("a>1|(b>2&c>3)", "a>1|b>2&c>3"), ("a>1|(b>2|c>3)", "a>1|b>2|c>3"), ("a>1|(!c>3)", "a>1|!c>3"),
                    ("a>1|(b>2|(c>3|d>4))", "a>1|b>2|c>3|d>4"), ("a>1|((b>2|c>3)|d>4)", "a>1|(b>2|c>3)|d>4"),
                    ("a>1|((b>2|c>3)&d>4)", "a>1|(b>2|c>3)&d>4")])

    def test_on_both_sides(self):
        self.check([("(a>1|b>2)&(c>3|d>4)", "(a>1|b>2)&(c>3|d>4)"), ("(a>1&b>2)&(c>3&d>4)", "(a>1&b>2)&c>3&d>4"),
                    ("(a>1|b>2)|(c>3|d>4)", "(a>1|b>2)|c>3|d>4"), ("(a>1&b>2)|(c>3&d>4)", "a>1&b>2|c>3&d>4"),
                    ("!(a>1&!(b>2|!(c>3&d>4)))", "!(a>1&!(b>2|!(c>3&d>4)))")])

    def test_nested_as_deep_as_is_allowed(self):
        self.check([("(" * 16 + "a>0" + "|b>0)" * 16 + "|c>0",) * 2, ("(" * 16 + "a>0" + "&b>0)" * 16 + "&c>0",) * 2,
                    ("!(a>0|" * 16 + "b>0" + ")" * 16,) * 2,
                    ("(a>0&" * 16 + "b>0" + ")" * 16, "a>0&" * 16 + "b>0"),
                    ("(a>0|" * 16 + "b>0" + ")" * 16, "a>0|" * 16 + "b>0")])


class Refusals(unittest.TestCase):
    def test_bounds_of_the_line(self):
        for number in (1, 2, 3, 64):
            rows = ["l%d:a>%d" % (k, k) for k in range(number)]
            first = [opening(), menu("\n".join(rows))]
            with self.subTest(number=number):
                self.assertEqual(written(last_answer(*first, line(0))), rows[0])
                self.assertEqual(written(last_answer(*first, line(number - 1))), rows[-1])
                for missing in (-1, number, number + 1, -number, -number - 1, LEAST, LEAST + 1, GREATEST, 2 ** 62):
                    self.assertEqual(last_answer(*first, line(missing)), [OUT_OF_RANGE])

    def test_without_a_trigger(self):
        self.assertEqual(asked(line(0), line(-1), line(LEAST), opening(most=0), line(0)),
                         [[NO_TRIGGER]] * 3 + [[OUT_OF_RANGE], [NO_TRIGGER]])

    def test_without_a_line(self):
        self.assertEqual(asked(opening(), line(0), line(-1), menu("?"), line(0), bare_menu(4097), line(0),
                               menu("\n \n"), line(0), line(-1)),
                         [[0], [-2], [-2], [-100], [-2], [-2], [-2], [0], [-2], [-2]])

    def test_behind_a_refused_menu(self):
        for refused in (menu("n:b>0\n?"), bare_menu(-1), menu("n:b>0\nn:b>0")):
            found = asked(opening(), menu("m:a>1"), refused, line(0), line(1))
            self.assertEqual([written(found[3]), found[4]], ["m:a>1", [OUT_OF_RANGE]])

    def test_behind_a_second_menu(self):
        found = asked(opening(), menu("m:a>1\nn:@m"), menu("k:a>2"), line(0), line(1), menu(""), line(0))
        self.assertEqual([written(found[3]), found[4], found[6]], ["k:a>2", [-2], [-2]])

    def test_behind_a_second_open(self):
        found = asked(opening(), menu("m:a>1"), opening(most=0), line(0), opening(), line(0), menu("k:a>2"), line(0))
        self.assertEqual([written(found[3]), found[5], written(found[7])], ["m:a>1", [-2], "k:a>2"])


class Answers(unittest.TestCase):
    def test_length_and_bytes(self):
        self.assertEqual(asked(opening(), menu("m : 1 a > 07"), line(0)),
                         [[0], [1], [5, 109, 58, 97, 62, 55]])

    def test_the_same_behind_events_and_a_net(self):
        text = "m:a>0/2\nn:^m&?>-3"
        found = asked(opening(), menu(text), line(1), event(1, (0, 1, 0)), line(1), net(b2=4), event(2), line(1),
                      event(2), line(1), line(1))
        self.assertEqual({written(found[place]) for place in (2, 4, 7, 9, 10)}, {"n:^m&?>-3"})


if __name__ == "__main__":
    unittest.main()
