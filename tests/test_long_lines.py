"""Text lines that nest deeper than Python's calls may."""

import sys
import unittest

from helper import asked, event, line, menu, opening, written

ONE = (0, 1, 0)


def both(text):
    """The answers to the menu and to events with and without an object of kind a."""
    assert len(text) <= 4096
    return asked(opening(), menu(text), event(1, ONE), event(2))[1:]


class LongLines(unittest.TestCase):
    def check(self, condition, with_object, without):
        found = both("m:" + condition)
        self.assertEqual([found[0], found[1][1], found[2][1]], [[1], int(with_object), int(without)])

    def test_rows_of_not(self):
        self.check("!" * 4091 + "a>0", False, True)
        self.check("!" * 4090 + "a>0", True, False)
        self.check("! " * 2000 + "a>0", True, False)

    def test_rows_of_not_within_parentheses(self):
        deep = ("!" * 201 + "(") * 16 + "!" * 101 + "a>0" + ")" * 16
        self.check(deep, False, True)
        self.check("(" * 16 + "!" * 4001 + "a>0" + ")" * 16, False, True)
        self.check("!" * 4001 + "(" * 16 + "a>0" + ")" * 16, False, True)

    def test_rows_of_and(self):
        self.check("&".join(["a>0"] * 1023), True, False)
        self.check("&".join(["a>0"] * 1022 + ["b>0"]), False, False)
        self.check("&".join(["!b>0"] * 800), True, True)
        self.check("&".join(["b>0"] + ["a>0"] * 1022), False, False)

    def test_rows_of_or(self):
        self.check("|".join(["a>0"] * 1023), True, False)
        self.check("|".join(["b>0"] * 1022 + ["a>0"]), True, False)
        self.check("|".join(["a>0"] + ["b>0"] * 1022), True, False)
        self.check("|".join(["b>0"] * 1022 + ["c>0"]), False, False)

    def test_mixed_rows(self):
        self.check("|".join(["a>0&b>0"] * 500 + ["a>0"]), True, False)
        self.check("&".join(["(a>0|b>0)"] * 400), True, False)
        self.check("&".join(["!(b>0|c>0)"] * 300 + ["a>0"]), True, False)
        self.check("|".join(["!!a>0&!b>0"] * 350), True, False)

    def test_many_distances(self):
        text = "m:" + "|".join(["a~a<0"] * 680) + "|a>5"
        objects = [(0, 1, 16 * place) for place in range(64)]
        found = asked(opening(), menu(text), *[event(time, *objects) for time in range(30)])
        self.assertEqual(found[2:], [[0, 0, 0, 0, 1]] * 30)

    def test_long_lines_that_are_refused(self):
        for condition in ("!" * 4094, "(" * 4094, ")" * 4094, "!" * 4090 + "a>", "&" * 4094,
                          "&".join(["a>0"] * 1022 + ["a"]), "a>0" + "&!" * 2000, "a>0" + ")" * 4000,
                          "|".join(["a>0"] * 1000) + ")", "(" + "|".join(["a>0"] * 1000), "a" * 4094, "1" * 4094):
            with self.subTest(condition=condition[:20]):
                self.assertEqual(asked(opening(), menu("m:" + condition)), [[0], [-100]])

    def test_few_calls_within_one_another_are_enough(self):
        limit = sys.getrecursionlimit()
        sys.setrecursionlimit(250)
        try:
            self.check("!" * 4091 + "a>0", False, True)
            self.check("|".join(["a>0&b>0"] * 500 + ["a>0"]), True, False)
            for condition in ("!" * 4091 + "a>0", "|".join(["a>0&b>0"] * 500 + ["a>0"]), "&".join(["a>0"] * 1000)):
                self.assertEqual(written(asked(opening(), menu("m:" + condition), line(0))[2]), "m:" + condition)
        finally:
            sys.setrecursionlimit(limit)


class TextOfLongLines(unittest.TestCase):
    def check(self, condition, due):
        """The text of the line, asked for as often as may be, and the text of that text."""
        assert len(condition) <= 4094
        found = asked(opening(), menu("m:" + condition), *[line(0)] * 57)
        self.assertEqual({written(answer) for answer in found[2:]}, {"m:" + due})
        self.assertEqual(written(asked(opening(), menu("m:" + due), line(0))[2]), "m:" + due)

    def test_rows_of_not(self):
        self.check("!" * 4091 + "a>0", "!" * 4091 + "a>0")
        self.check("! " * 2000 + "a>0", "!" * 2000 + "a>0")
        self.check("!" * 4085 + "(a>0|b>0)", "!" * 4085 + "(a>0|b>0)")
        self.check("(" * 16 + "!" * 4001 + "a>0" + ")" * 16, "!" * 4001 + "a>0")
        self.check("!" * 4001 + "(" * 16 + "a>0" + ")" * 16, "!" * 4001 + "a>0")
        deep = ("!" * 201 + "(") * 16 + "!" * 101
        self.check(deep + "a>0" + ")" * 16, "!" * 3317 + "a>0")
        self.check(deep + "a>0" + ")|b>0" * 16, "!" * 201 + ("(" + "!" * 201) * 15 + "!" * 101 + "a>0" + "|b>0)" * 15
                   + "|b>0")

    def test_rows_of_and(self):
        row = "&".join(["a>0"] * 1023)
        self.check(row, row)
        self.check("(" + "&".join(["a>0"] * 1020) + ")", "&".join(["a>0"] * 1020))
        self.check("&".join(["(a>0)"] * 600), "&".join(["a>0"] * 600))
        self.check("(" + "&".join(["a>0"] * 500) + ")&" + "&".join(["b>0"] * 500),
                   "(" + "&".join(["a>0"] * 500) + ")&" + "&".join(["b>0"] * 500))
        self.check("&".join(["a>0"] * 500) + "&(" + "&".join(["b>0"] * 500) + ")",
                   "&".join(["a>0"] * 500 + ["b>0"] * 500))

    def test_rows_of_or(self):
        row = "|".join(["a>0"] * 1023)
        self.check(row, row)
        self.check("(" + "|".join(["a>0"] * 1020) + ")", "|".join(["a>0"] * 1020))
        self.check("|".join(["(a>0)"] * 600), "|".join(["a>0"] * 600))
        self.check("(" + "|".join(["a>0"] * 500) + ")|" + "|".join(["b>0"] * 500),
                   "(" + "|".join(["a>0"] * 500) + ")|" + "|".join(["b>0"] * 500))
        self.check("|".join(["a>0"] * 500) + "|(" + "|".join(["b>0"] * 500) + ")",
                   "|".join(["a>0"] * 500 + ["b>0"] * 500))

    def test_mixed_rows(self):
        self.check("|".join(["(a>0&b>0)"] * 400), "|".join(["a>0&b>0"] * 400))
        self.check("&".join(["(a>0|b>0)"] * 400), "&".join(["(a>0|b>0)"] * 400))
        self.check("&".join(["!(b>0|c>0)"] * 300 + ["a>0"]), "&".join(["!(b>0|c>0)"] * 300 + ["a>0"]))
        self.check("|".join(["!(!a>0)&(!b>0)"] * 270), "|".join(["!!a>0&!b>0"] * 270))


if __name__ == "__main__":
    unittest.main()
