"""Operation 2, menu: text lines, tokens, grammar and names."""

import unittest

from helper import asked, bare_menu, event, holding, last_answer, menu, menu_answer, opening

GOOD = 1
BAD = -100


class MenuTests(unittest.TestCase):
    def check(self, answer, texts):
        for text in texts:
            with self.subTest(text=text):
                self.assertEqual(menu_answer(text), answer)


class Size(MenuTests):
    def test_bounds(self):
        self.assertEqual(asked(opening(), bare_menu(0)), [[0], [0]])
        self.assertEqual(asked(opening(), bare_menu(-1)), [[0], [-2]])
        self.assertEqual(asked(opening(), bare_menu(4097)), [[0], [-2]])
        self.check(GOOD, ["m:a>0" + " " * 4091])
        self.check(0, ["\n" * 4096, " " * 4096])
        self.check(BAD - 4095, ["\n" * 4095 + "?"])


class TextLines(MenuTests):
    def test_count_of_lines(self):
        self.check(0, ["", " ", "    ", "\n", "\n\n\n", " \n  \n "])
        self.check(1, ["m:a>0", "\nm:a>0", "m:a>0\n", "  \n\nm:a>0\n  \n"])
        self.check(3, ["m:a>0\nn:a>0\no:a>0", "\nm:a>0\n  \nn:a>0\n\n\no:a>0\n"])

    def test_lines_are_numbered_without_the_ignored_ones(self):
        text = "\n  \nm:a>0\n\n  \nn:b>0\n\no:@m&!@n"
        self.assertEqual(last_answer(opening(), menu(text), event(1, (0, 1, 0))), [1, 5, 5, 0, 0])

    def test_first_bad_text_line_is_counted_with_the_ignored_ones(self):
        self.check(-100, ["?", "m", "m:a>0 b\nn:?"])
        self.check(-101, ["\n?", "m:a>0\n?", "  \nm:\n", "m:a>0\nm:a>0\nm:a>0"])
        self.check(-104, ["\n \nm:a>0\n\nn:a>0/0\n?"])
        self.check(-103, ["m:a>0\n\n\n:a>0\n"])

    def test_64_and_65_lines(self):
        lines = ["l%d:a>0" % k for k in range(65)]
        self.check(64, ["\n".join(lines[:64]), "\n\n".join(lines[:64]), "\n".join(lines[:64]) + "\n\n   \n"])
        self.check(-164, ["\n".join(lines), "\n".join(lines[:64]) + "\n?", "\n".join(lines) + "\n?"])
        self.check(-168, ["\n\n" + "\n".join(lines[:64]) + "\n  \n\n" + lines[64]])
        self.check(-103, ["\n".join(lines[:3] + ["?"] + lines[3:])])
        self.check(-163, ["\n".join(lines[:63] + ["?"] + lines[63:])])

    def test_spaces_between_tokens(self):
        self.check(GOOD, ["  m  :  2  a  >  1  &  (  !  b  >  0  )  |  +  c  >  3  /  7  ",
                          "m:a ~ b < 3", "m: ? > - 3", "m:a>0&?>3|a~b<5"])
        self.check(BAD, ["m n:a>0", "m:a>1 0", "m:a>0/1 0", "m:1 2a>0"])

    def test_bytes_that_belong_to_no_token(self):
        legal = set(b"ABCDEFGHIJKLMNOPQRSTUVWXYZabcdefghijklmnopqrstuvwxyz_0123456789!&()+-/:<>?@^|~ \n")
        for byte in range(256):
            with self.subTest(byte=byte):
                if byte not in legal:
                    self.assertEqual(menu_answer(b"m:a>0" + bytes([byte])), BAD)
                    self.assertEqual(menu_answer(b"m" + bytes([byte]) + b":a>0"), BAD)
                    self.assertEqual(menu_answer(b" \n" + bytes([byte]) + b"m:a>0"), -101)
                    self.assertEqual(menu_answer(bytes([byte])), BAD)
        self.check(BAD, ["m:\ta>0", "m:a>0\r\n", "m:a=0", "m:a>0;", "m:a>0.", "m:a>0#"])


class Names(MenuTests):
    def test_length(self):
        for length in (1, 2, 15, 16):
            self.check(GOOD, ["m" * length + ":a>0"])
        for length in (17, 18, 100):
            self.check(BAD, ["m" * length + ":a>0"])
        name = "_2345678901234_6"
        self.check(2, [name + ":a>0\nn:@" + name, name + ":a>0\nn:^" + name])
        self.check(-101, [name + ":a>0\nn:@" + name + "7", name + ":a>0\nn:^" + name + "7"])
        self.check(2, [name + ":a>0\n" + name[:15] + ":a>0"])

    def test_signs(self):
        self.check(GOOD, ["A:a>0", "Z:a>0", "a:a>0", "z:a>0", "_:a>0", "__:a>0", "_0:a>0", "aZ_09:a>0", "h:a>0"])
        self.check(BAD, ["0:a>0", "9m:a>0", "1_:a>0", ":a>0", "m-n:a>0", "-:a>0"])

    def test_must_differ_from_all_before(self):
        self.check(3, ["m:a>0\nM:a>0\nm_:a>0", "a:a>0\nb:b>0\nc:@a"])
        self.check(-101, ["m:a>0\nm:b>0", "m:a>0\n m :b>0"])
        self.check(-103, ["m:a>0\nn:a>0\no:a>0\nm:a>0", "m:a>0\nn:a>0\n\nn:a>0"])

    def test_names_of_lines_before(self):
        self.check(2, ["m:a>0\nn:@m", "m:a>0\nn:^m", "m:a>0\nn: @ m & ^ m", "a:a>0\nb:@a&^a"])
        self.check(BAD, ["m:@m", "m:^m", "m:@n\nn:a>0", "m:^n\nn:a>0", "m:a>0&@x"])
        self.check(-101, ["m:a>0\nn:@M", "m:a>0\nn:@n", "m:a>0\nn:^mm", "m:a>0\nn:@", "m:a>0\nn:^", "m:a>0\nn:@1",
                          "m:a>0\nn:@(m)", "m:a>0\nn:m", "m:a>0\nn:@@m", "m:a>0\nn:@m^m"])

    def test_names_of_a_menu_before_are_gone(self):
        found = asked(opening(), menu("m:a>0"), menu("n:@m"), menu("n:a>0"), menu("m:a>0\nn:@m"))
        self.assertEqual(found, [[0], [1], [-100], [1], [2]])


class Numbers(MenuTests):
    def test_digits(self):
        self.check(GOOD, ["m:a>0", "m:a>00000", "m:a>00001", "m:a>65535", "m:+a>99999", "m:a>1/00001", "m:00016a>1"])
        self.check(BAD, ["m:a>000000", "m:a>000001", "m:+a>100000", "m:?>100000", "m:?>-100000", "m:a>1/000001",
                         "m:000001a>1", "m:a~b<000005", "m:a>123456"])

    def test_leading_zeros_are_not_counted(self):
        self.assertTrue(holding("m:a>00009", (0, 10, 0)))
        self.assertFalse(holding("m:a>00010", (0, 10, 0)))
        self.assertTrue(holding("m:002a>1", (0, 2, 0), (0, 2, 0)))
        self.assertFalse(holding("m:002a>1", (0, 2, 0)))

    def test_a_number_may_stand_before_a_kind_at_once(self):
        self.check(GOOD, ["m:2a>1", "m:2 a>1", "m:16h>0"])
        self.check(BAD, ["m:a2>1", "m:2a2>1", "m:2ab>1"])

    def test_ranges(self):
        self.check(GOOD, ["m:1a>0", "m:16a>0", "m:1a>65535", "m:a>65535", "m:a~b<0", "m:a~b<513", "m:a~a<00513",
                          "m:+a>0", "m:+a>65536", "m:+a>99999", "m:?>0", "m:?>99999", "m:?>-0", "m:?>-99999",
                          "m:a>0/1", "m:a>0/65535"])
        self.check(BAD, ["m:0a>0", "m:17a>0", "m:00000a>0", "m:1a>65536", "m:a>65536", "m:a>99999", "m:a~b<514",
                         "m:a~b<99999", "m:a>0/0", "m:a>0/00000", "m:a>0/65536", "m:a>0/99999"])


class Grammar(MenuTests):
    def test_kinds(self):
        for letter in "abcdefgh":
            self.check(GOOD, ["m:%s>0" % letter, "m:+%s>0" % letter, "m:3%s>0" % letter, "m:%s~a<3" % letter,
                              "m:a~%s<3" % letter])
        for word in ("i", "z", "A", "H", "_", "aa", "ab", "a1", "a_", "0", "", "(a)", "m"):
            self.check(BAD, ["m:%s>0" % word, "m:+%s>0" % word, "m:3%s>0" % word, "m:%s~a<3" % word,
                             "m:a~%s<3" % word])

    def test_line(self):
        self.check(BAD, ["m", "m:", ":", "m a>0", "m::a>0", "m:a>0:", "m/2:a>0", "m:a>0/", "m:a>0/2/2", "m:a>0/2a",
                         "m:a>0/-2", "m:a>0/+2", "m:/2", "m:a>0/b", "m:(a>0/2)", "m:a>0/2|b>0", "m:a>0 n:a>0",
                         "m:a>0//2", "m:a>0/(2)", "m:a>0 2", "m:a>0/2 2"])

    def test_simple(self):
        self.check(BAD, ["m:a", "m:a>", "m:>0", "m:a<0", "m:a>-1", "m:a>+1", "m:a>>1", "m:a>b", "m:2", "m:2>a", "m:a 2>0",
                         "m:-2a>0", "m:+2a>0", "m:2+a>0", "m:+a", "m:+a>", "m:+a<0", "m:++a>0", "m:+>0", "m:a+>0",
                         "m:-a>0", "m:+a~b<3", "m:2a~b<3", "m:a~2b<3", "m:a~b>3", "m:a~b", "m:a~b<", "m:a~<3",
                         "m:~b<3", "m:a~b<-3", "m:a~b~c<3", "m:a b<3", "m:?", "m:?>", "m:?<3", "m:?3", "m:?>+3",
                         "m:?>--3", "m:?>3-", "m:?-3", "m:-?>3", "m:2?>3", "m:+?>3", "m:?>a", "m:?>-", "m:0>0"])

    def test_operators(self):
        self.check(GOOD, ["m:!a>0", "m:!!a>0", "m:!(a>0)", "m:(!a>0)", "m:((a>0))", "m:a>0&b>0", "m:a>0|b>0",
                          "m:a>0&!b>0|!(c>0&d>0)", "m:(a>0)&(b>0)", "m:(a>0|b>0)/3", "m:a>0&(b>0|c>0)&d>0"])
        self.check(BAD, ["m:!", "m:a>0!", "m:a>0!b>0", "m:a>0&", "m:&a>0", "m:a>0|", "m:|a>0", "m:a>0&&b>0",
                         "m:a>0||b>0", "m:a>0&|b>0", "m:a>0|&b>0", "m:a>0 b>0", "m:()", "m:(", "m:)", "m:(a>0",
                         "m:a>0)", "m:((a>0)", "m:(a>0))", "m:)a>0(", "m:(a>0)(b>0)", "m:a>0(b>0)", "m:(a>0)b>0",
                         "m:a>(0)", "m:2(a>0)", "m:(2)a>0", "m:(a)>0", "m:!(a>0", "m:!&a>0", "m:(a>0&)", "m:(|a>0)",
                         "m:(!)", "m:(a>0|b>0", "m:a>0|b>0)", "m:(a>0)!", "m:(a>0&b>0)|", "m:a>0)&(b>0"])

    def test_nesting_of_parentheses(self):
        for deep in (1, 15, 16):
            self.check(GOOD, ["m:" + "(" * deep + "a>0" + ")" * deep, "m:" + "!(" * deep + "a>0" + ")" * deep,
                              "m:" + "(b>0&" * deep + "a>0" + ")" * deep, "m:" + "(" * deep + "a>0" + "|b>0)" * deep])
        for deep in (17, 18, 100):
            self.check(BAD, ["m:" + "(" * deep + "a>0" + ")" * deep, "m:" + "!(" * deep + "a>0" + ")" * deep,
                             "m:" + "(b>0&" * deep + "a>0" + ")" * deep, "m:" + "(" * deep + "a>0" + "|b>0)" * deep])

    def test_parentheses_one_behind_another_are_not_nested(self):
        full = "(" * 16 + "a>0" + ")" * 16
        self.check(GOOD, ["m:" + "&".join([full] * 5), "m:" + "|".join(["(a>0)"] * 100),
                          "m:" + "(" * 15 + "(a>0)&(b>0)" + ")" * 15])
        self.check(BAD, ["m:" + full + "&(" + full + ")", "m:" + "(" * 16 + "(a>0)&b>0" + ")" * 16])


class Loading(MenuTests):
    def test_replaces_the_menu(self):
        found = asked(opening(), menu("m:a>0\nn:a>1"), event(1, (0, 2, 0)), menu("m:b>0"), event(2, (0, 2, 0)),
                      menu(""), event(3, (0, 2, 0)))
        self.assertEqual(found[2:], [[1, 3, 3, 0, 0], [1], [0, 0, 0, 0, 1], [0], [0, 0, 0, 0, 1]])

    def test_sets_the_counts_of_lines_to_0(self):
        calls = [opening(), menu("m:a>0/2")]
        calls += [event(1, (0, 1, 0)), menu("m:a>0/2"), event(2, (0, 1, 0)), event(3, (0, 1, 0))]
        self.assertEqual([answer[2] for answer in asked(*calls) if len(answer) == 5], [0, 0, 1])

    def test_refused_menu_changes_nothing(self):
        for refused in (bare_menu(4097), bare_menu(-1), menu("m:a>0\nm:b>0"), menu("?"), menu("n:a>0/0")):
            with self.subTest(refused=refused):
                found = asked(opening(), menu("m:a>0/2\np:^m"), event(1, (0, 1, 0)), refused, event(2, (0, 1, 0)))
                self.assertEqual(found[4], [1, 3, 3, 0, 0])
                self.assertLess(found[3][0], 0)

    def test_refused_first_menu_is_no_menu(self):
        self.assertEqual(asked(opening(), menu("?"), event(1), bare_menu(4097), event(1)),
                         [[0], [-100], [-6], [-2], [-6]])

    def test_keeps_events_kept_events_and_network(self):
        found = asked(opening(100, 100, 1), menu("m:?>4"), event(1), menu("m:!a>0"), event(2), menu("m:!a>0"),
                      event(2), event(3))
        self.assertEqual(found[2:], [[0, 0, 0, 0, 1], [1], [1, 1, 1, 0, 0], [1], [-3], [0, 1, 1, 0, 2]])


if __name__ == "__main__":
    unittest.main()
