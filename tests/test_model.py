"""Random requests against a second reading of the document, and its requirements.

The model here is slow and plain: it recurses, looks at all pairs and keeps all events.
"""

import random
import re
import unittest

from helper import FEATURES, SUMS, asked, canonical, counts, event, line, menu, net, opening, written

TOKEN = re.compile(r" *([A-Za-z_][A-Za-z_0-9]*|[0-9]+|[!&()+\-/:<>?@^|~])")


class Bad(Exception):
    pass


class Parser:
    """Reads a text line into a name, a prescale and a condition as nested tuples."""

    def __init__(self, text, names):
        self.names = names
        self.tokens = []
        text = text.rstrip(" ")
        place = 0
        while place < len(text):
            found = TOKEN.match(text, place)
            if not found:
                raise Bad
            word = found.group(1)
            if len(word) > (5 if word[0].isdigit() else 16):
                raise Bad
            self.tokens.append(word)
            place = found.end()
        self.tokens.append("end")
        self.ends = len(self.tokens)

    def peek(self):
        return self.tokens[0] if len(self.tokens) > 1 else "\0"

    def next(self, pattern):
        word = self.peek()
        if not re.fullmatch(pattern, word):
            raise Bad
        self.tokens.pop(0)
        return word

    def number(self, least, greatest):
        found = int(self.next("[0-9]+"))
        if not least <= found <= greatest:
            raise Bad
        return found

    def kind(self):
        return "abcdefgh".index(self.next("[a-h]"))

    def line(self):
        name = self.next("[A-Za-z_].*")
        if name in self.names:
            raise Bad
        self.next(":")
        found = self.condition(0)
        prescale = 1
        if self.peek() == "/":
            self.next("/")
            prescale = self.number(1, 65535)
        if len(self.tokens) > 1:
            raise Bad
        return name, found, prescale

    def condition(self, deep):
        left = self.conjunction(deep)
        if self.peek() == "|":
            self.next(r"\|")
            return ("or", left, self.condition(deep))
        return left

    def conjunction(self, deep):
        left = self.unary(deep)
        if self.peek() == "&":
            self.next("&")
            return ("and", left, self.conjunction(deep))
        return left

    def unary(self, deep):
        if self.peek() == "!":
            self.next("!")
            return ("not", self.unary(deep))
        if self.peek() == "(":
            self.next(r"\(")
            if deep == 16:
                raise Bad
            found = self.condition(deep + 1)
            self.next(r"\)")
            return found
        return self.simple()

    def simple(self):
        sign = self.peek()
        if sign in ("@", "^"):
            self.next(r"[@^]")
            name = self.next("[A-Za-z_].*")
            if name not in self.names:
                raise Bad
            return (sign, self.names.index(name))
        if sign == "?":
            self.next(r"\?")
            self.next(">")
            if self.peek() == "-":
                self.next("-")
                return ("?", -self.number(0, 99999))
            return ("?", self.number(0, 99999))
        if sign == "+":
            self.next(r"\+")
            kind = self.kind()
            self.next(">")
            return ("+", kind, self.number(0, 99999))
        if sign.isdigit():
            least = self.number(1, 16)
            kind = self.kind()
            self.next(">")
            return ("n", least, kind, self.number(0, 65535))
        kind = self.kind()
        if self.peek() == "~":
            self.next("~")
            other = self.kind()
            self.next("<")
            return ("~", kind, other, self.number(0, 513))
        self.next(">")
        return ("n", 1, kind, self.number(0, 65535))


def text_of(condition, names):
    """The canonical text, by the four places in which the document tells parentheses."""
    sign = condition[0]
    rest = condition[1:]

    def part(place, *enclosed):
        inner = text_of(rest[place], names)
        return "(" + inner + ")" if rest[place][0] in enclosed else inner

    if sign == "not":
        return "!" + part(0, "and", "or")
    if sign == "and":
        return part(0, "and", "or") + "&" + part(1, "or")
    if sign == "or":
        return part(0, "or") + "|" + part(1)
    if sign == "n":
        return ("%d" % rest[0] if rest[0] > 1 else "") + "%s>%d" % ("abcdefgh"[rest[1]], rest[2])
    if sign == "+":
        return "+%s>%d" % ("abcdefgh"[rest[0]], rest[1])
    if sign == "~":
        return "%s~%s<%d" % ("abcdefgh"[rest[0]], "abcdefgh"[rest[1]], rest[2])
    if sign == "?":
        return "?>%d" % rest[0]
    return sign + names[rest[0]]


def features_of(shift, objects):
    features = []
    for kind in range(8):
        ranked = sorted((single[1] for single in objects if single[0] == kind), reverse=True) + [0] * 4
        features += [min(255, value // 2 ** shift) for value in ranked[:4]]
    return features


def score_of(network, objects):
    shift, mul, down, b2, b1, w1, w2 = network
    features = features_of(shift, objects)
    hidden = [max(0, min(255, (sum(features[i] * w1[32 * j + i] for i in range(32)) + b1[j]) * mul // 2 ** down))
              for j in range(16)]
    return sum(hidden[j] * w2[j] for j in range(16)) + b2


def near(objects, kind, other, below):
    for place, one in enumerate(objects):
        for second, two in enumerate(objects):
            apart = (one[2] - two[2]) % 1024
            if place != second and (one[0], two[0]) == (kind, other) and min(apart, 1024 - apart) < below:
                return True
    return False


def true(condition, objects, score, now, before):
    sign = condition[0]
    rest = condition[1:]
    if sign == "not":
        return not true(rest[0], objects, score, now, before)
    if sign in ("and", "or"):
        found = [true(part, objects, score, now, before) for part in rest]
        return all(found) if sign == "and" else any(found)
    if sign == "n":
        return sum(1 for single in objects if single[0] == rest[1] and single[1] > rest[2]) >= rest[0]
    if sign == "+":
        return sum(single[1] for single in objects if single[0] == rest[0]) > rest[1]
    if sign == "~":
        return near(objects, *rest)
    if sign == "?":
        return score > rest[0]
    return rest[0] in (now if sign == "@" else before)


class Model:
    def __init__(self, dead, window, most):
        self.limits = (dead, window, most)
        self.network = (0, 1, 0, 0, [0] * 16, [0] * 512, [0] * 16)
        self.lines = None
        self.events = []
        self.kept = []
        self.reasons = []
        self.objects = []
        # Of each event since the menu was loaded: what held, what passed, and the reason.
        self.held = []
        self.passed = []

    def menu(self, text):
        lines = []
        for number, row in enumerate(text.split("\n")):
            if row.strip(" ") == "":
                continue
            try:
                if len(lines) == 64:
                    raise Bad
                lines.append(Parser(row, [line[0] for line in lines]).line())
            except Bad:
                return [-100 - number]
        self.lines = lines
        self.held = []
        self.passed = []
        return [len(lines)]

    def event(self, time, objects):
        if self.lines is None:
            return [-6]
        if self.events and time <= self.events[-1]:
            return [-3]
        score = score_of(self.network, objects)
        before = self.held[-1] if self.held and self.events[-1] == time - 1 else []
        now = []
        for number, line in enumerate(self.lines):
            if true(line[1], objects, score, now, before):
                now.append(number)
        self.held.append(now)
        self.events.append(time)
        passing = [k for k in now if sum(1 for held in self.held if k in held) % self.lines[k][2] == 0]
        reason = self.reason(time, passing)
        if reason == 0:
            self.kept.append(time)
        self.reasons.append(reason)
        self.passed.append((passing, reason))
        self.objects = objects
        return [int(reason == 0), sum(2 ** k for k in now), sum(2 ** k for k in passing), score, reason]

    def reason(self, time, passing):
        dead, window, most = self.limits
        if not passing:
            return 1
        if any(time < k + dead for k in self.kept):
            return 2
        return 3 if sum(1 for k in self.kept if time < k + window) >= most else 0

    def has(self, number):
        return self.lines is not None and number in range(len(self.lines))

    def counts(self, number):
        if not self.has(number):
            return [-2]
        passed = [reason for passing, reason in self.passed if number in passing]
        return [0, sum(number in now for now in self.held), len(passed), passed.count(0)]

    def sums(self):
        return [0, len(self.events)] + [self.reasons.count(reason) for reason in range(4)]

    def features(self):
        return [0] + features_of(self.network[0], self.objects)

    def line(self, number):
        if not self.has(number):
            return [-2]
        name, condition, prescale = self.lines[number]
        text = "%s:%s" % (name, text_of(condition, [other[0] for other in self.lines]))
        text += "/%d" % prescale if prescale > 1 else ""
        return [len(text)] + list(text.encode("ascii"))


class Maker:
    """Random menus, networks and events, out of a fixed seed."""

    def __init__(self, seed):
        self.dice = random.Random(seed)

    def simple(self, names, plain):
        dice = self.dice
        choices = ["n", "n", "n1", "+", "~", "~"] + ([] if plain else ["?", "?-"]) + (["@", "^"] if names else [])
        chosen = dice.choice(choices)
        letter = dice.choice("abc")
        if chosen == "n":
            return "%s%s>%d" % (dice.choice(("1", "2 ", "3", "01", "0002")), letter, dice.randint(0, 12))
        if chosen == "n1":
            return "%s > %03d" % (letter, dice.randint(0, 12))
        if chosen == "+":
            return "+%s>%d" % (letter, dice.randint(0, 30))
        if chosen == "~":
            return "%s~%s<%d" % (letter, dice.choice("abc"), dice.choice([0, 1, 2, 30, 300, 513]))
        if chosen == "?":
            return "?>%d" % dice.randint(0, 40)
        if chosen == "?-":
            return "? > -%d" % dice.randint(0, 40)
        return chosen + dice.choice(names)

    def condition(self, names, plain, size):
        dice = self.dice
        if size <= 1:
            return self.simple(names, plain)
        form = dice.choice(["&", "|", "&", "|", "(", "" if plain else "!", "" if plain else "!("])
        if form in ("&", "|"):
            left = dice.randint(1, size - 1)
            return self.condition(names, plain, left) + form + self.condition(names, plain, size - left)
        inner = self.condition(names, plain, size - 1)
        if form == "!":
            return "!" + inner
        return form + inner + ")" if form else inner

    def menu(self, plain=False):
        names = []
        rows = []
        for number in range(self.dice.randint(1, 8)):
            row = "L%d:%s" % (number, self.condition(names, plain, self.dice.randint(1, 8)))
            if self.dice.random() < 0.4:
                row += self.dice.choice(("/%d", " / %d", "/0%d")) % self.dice.randint(1, 4)
            names.append("L%d" % number)
            rows.append(row)
            if self.dice.random() < 0.2:
                rows.append(" " * self.dice.randint(0, 2))
        return "\n".join(rows)

    def question(self, model):
        """A call that changes nothing, and what it is to be answered."""
        number = self.dice.choice((-1, 0, 0, 1, 2, 3, 7, 8))
        return self.dice.choice([(counts(number), model.counts(number)), (SUMS, model.sums()),
                                 (FEATURES, model.features()), (line(number), model.line(number))])

    def spoiled(self, text):
        place = self.dice.randrange(len(text) + 1)
        return text[:place] + self.dice.choice("!&()+-/:<>?@^|~ a1\n") + text[place + self.dice.randint(0, 1):]

    def network(self):
        dice = self.dice
        return (dice.randint(0, 3), dice.randint(1, 9), dice.randint(0, 6), dice.randint(-40, 40),
                [dice.randint(-60, 60) for k in range(16)], [dice.randint(-9, 9) for k in range(512)],
                [dice.randint(-2, 2) for k in range(16)])

    def objects(self):
        return [(self.dice.choice((0, 0, 1, 2, 7)), self.dice.randint(0, 15), self.dice.choice((0, 1, 2, 500, 1022, 1023)))
                for k in range(self.dice.choice((0, 1, 2, 3, 5, 8)))]


class AgainstModel(unittest.TestCase):
    def compare(self, seed):
        maker = Maker(seed)
        dice = maker.dice
        limits = (dice.randint(0, 4), dice.randint(1, 8), dice.randint(1, 3))
        model = Model(*limits)
        calls = [opening(*limits)]
        expected = [[0]]
        time = dice.randint(0, 3)
        for step in range(58):
            roll = dice.random()
            if step == 0 or roll < 0.06:
                text = maker.menu() if roll < 0.5 else maker.spoiled(maker.menu())
                calls.append(menu(text))
                expected.append(model.menu(text))
            elif roll < 0.1:
                model.network = maker.network()
                calls.append(net(*model.network))
                expected.append([0])
            elif roll < 0.3:
                call, answer = maker.question(model)
                calls.append(call)
                expected.append(answer)
            else:
                objects = maker.objects()
                calls.append(event(time, *objects))
                expected.append(model.event(time, objects))
            time += dice.choice((0, 1, 1, 1, 1, 2, 3))
        self.assertLessEqual(sum(len(call) for call in calls), 16000)
        self.assertEqual(asked(*calls), expected)

    def test_random_requests(self):
        for seed in range(300):
            with self.subTest(seed=seed):
                self.compare(seed)

    def test_spoiled_menus(self):
        for seed in range(1500):
            maker = Maker(seed)
            text = maker.spoiled(maker.menu())
            with self.subTest(text=text):
                self.assertEqual(asked(opening(), menu(text))[1], Model(0, 1, 1).menu(text))


class CanonicalText(unittest.TestCase):
    def test_of_random_lines(self):
        for seed in range(400):
            maker = Maker(seed)
            text = maker.menu()
            model = Model(0, 1, 1)
            with self.subTest(text=text):
                number = model.menu(text)[0]
                found = asked(opening(), menu(text), *[line(k) for k in range(number)])[2:]
                self.assertEqual(found, [model.line(k) for k in range(number)])

    def test_gives_the_same_line_behind_the_same_lines(self):
        # Requirement 5, for each line by itself and for all lines at once.
        for seed in range(200):
            maker = Maker(seed)
            rows = [row for row in maker.menu().split("\n") if row.strip(" ")]
            plain = [written(answer) for answer in asked(opening(), menu("\n".join(rows)), *map(line, range(len(rows))))[2:]]
            events = [event(time, *maker.objects()) for time in range(12)]
            network = net(*maker.network())
            due = asked(opening(), menu("\n".join(rows)), network, *events)
            for number in range(len(rows)):
                again = "\n".join(rows[:number] + [plain[number]] + rows[number + 1:])
                self.assertEqual(canonical(again, number), plain[number])
                self.assertEqual(asked(opening(), menu(again), network, *events), due)
            self.assertEqual([canonical("\n".join(plain), number) for number in range(len(rows))], plain)
            self.assertEqual(asked(opening(), menu("\n".join(plain)), network, *events), due)

    def tree(self, text):
        try:
            return Parser(text, ["L%d" % k for k in range(8)]).line()
        except Bad:
            return None

    def pairs(self, text):
        begun = []
        for place, sign in enumerate(text):
            if sign == "(":
                begun.append(place)
            elif sign == ")":
                yield begun.pop(), place

    def test_has_the_same_tree_and_no_parentheses_to_spare(self):
        for seed in range(300):
            condition = Maker(seed).condition(["L0", "L1"], False, 12)
            text = "L0:a>0\nL1:b>0\nm:" + condition
            found = canonical(text, 2)
            with self.subTest(condition=condition):
                self.assertNotIn(" ", found)
                self.assertIsNone(re.search(r"(?<![A-Za-z_0-9])0[0-9]|(?<![0-9])1[a-h]", found))
                self.assertEqual(self.tree(found), self.tree("m:" + condition))
                self.assertIsNotNone(self.tree(found))
                for begin, end in self.pairs(found):
                    fewer = found[:begin] + found[begin + 1:end] + found[end + 1:]
                    self.assertNotEqual(self.tree(fewer), self.tree(found))


class Requirements(unittest.TestCase):
    def test_kept_events_are_apart_and_few(self):
        for seed in range(150):
            dice = random.Random(seed)
            dead, window, most = dice.randint(0, 6), dice.randint(1, 15), dice.randint(1, 4)
            times = sorted(dice.sample(range(90), 55))
            flags = [dice.random() < 0.8 for time in times]
            calls = [event(time, *([(0, 1, 0)] if flag else [])) for time, flag in zip(times, flags)]
            found = asked(opening(dead, window, most), menu("m:a>0"), *calls)[2:]
            kept = []
            for time, flag, answer in zip(times, flags, found):
                due = flag and all(time - k >= dead for k in kept)
                due = due and sum(1 for k in kept if time < k + window) < most
                self.assertEqual(answer[0], int(due))
                if answer[0]:
                    kept.append(time)
            for first, second in zip(kept, kept[1:]):
                self.assertGreaterEqual(second - first, dead)
            for time in range(120):
                self.assertLessEqual(sum(1 for k in kept if k <= time < k + window), most)

    def test_order_of_the_objects(self):
        for seed in range(100):
            maker = Maker(seed)
            first = [opening(), menu(maker.menu()), net(*maker.network())]
            events = [maker.objects() for time in range(20)]
            shuffled = [maker.dice.sample(objects, len(objects)) for objects in events]
            self.assertEqual(asked(*first, *[event(time, *objects) for time, objects in enumerate(events)]),
                             asked(*first, *[event(time, *objects) for time, objects in enumerate(shuffled)]))

    def test_another_object_ends_no_holding_without_not_and_score(self):
        for seed in range(200):
            maker = Maker(seed)
            text = maker.menu(plain=True)
            objects = maker.objects()
            more = objects + [(maker.dice.randint(0, 2), maker.dice.randint(0, 15), maker.dice.randint(0, 1023))]
            fewer_bits = asked(opening(), menu(text), event(1, *objects))[2][1]
            more_bits = asked(opening(), menu(text), event(1, *more))[2][1]
            self.assertEqual(fewer_bits & ~more_bits, 0)


if __name__ == "__main__":
    unittest.main()
