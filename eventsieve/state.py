"""The state of a trigger and how an event changes it."""

from eventsieve.conditions import Facts, lines_that_hold
from eventsieve.network import fresh_network
from eventsieve.objects import ranked_values

KEPT = 0
NO_LINE_PASSES = 1
DEAD_TIME = 2
WINDOW_FULL = 3


def one_more(count):
    return (count + 1) % 2 ** 64


def bits_of(flags):
    total = 0
    weight = 1
    for flag in flags:
        if flag:
            total += weight
        weight *= 2
    return total


class Trigger:
    def __init__(self, dead, window, most):
        self.dead = dead
        self.window = window
        self.most = most
        self.network = fresh_network()
        self.lines = None
        # Every time that is allowed is greater than this one.
        self.last_time = -1
        self.last_objects = []
        self.held_before = []
        self.kept_times = []
        self.events = 0
        self.reasons = [0, 0, 0, 0]

    def load_menu(self, lines):
        self.lines = lines
        self.held_before = [False] * len(lines)

    def take_event(self, time, objects):
        ranked = ranked_values(objects)
        score = self.network.score_of(ranked)
        facts = Facts(objects, ranked, score, self.held_just_before(time))
        holding = lines_that_hold(self.lines, facts)
        passing = self.lines_that_pass(holding)
        reason = self.reason_for(time, passing)
        self.count_event(passing, reason)
        self.last_time = time
        self.last_objects = objects
        self.held_before = holding
        if reason == KEPT:
            self.keep_time(time)
        kept = 1 if reason == KEPT else 0
        return [kept, bits_of(holding), bits_of(passing), score, reason]

    def features_now(self):
        return self.network.features_of(ranked_values(self.last_objects))

    def held_just_before(self, time):
        if self.last_time == time - 1:
            return self.held_before
        return [False] * len(self.lines)

    def lines_that_pass(self, holding):
        passing = []
        for line, holds in zip(self.lines, holding):
            if holds:
                line.held = one_more(line.held)
            passing.append(holds and line.held % line.prescale == 0)
        return passing

    def reason_for(self, time, passing):
        if not any(passing):
            return NO_LINE_PASSES
        if len(self.kept_times) > 0 and time < self.kept_times[-1] + self.dead:
            return DEAD_TIME
        recent = [kept for kept in self.kept_times if time < kept + self.window]
        if len(recent) >= self.most:
            return WINDOW_FULL
        return KEPT

    def count_event(self, passing, reason):
        self.events = one_more(self.events)
        self.reasons[reason] = one_more(self.reasons[reason])
        for line, passes in zip(self.lines, passing):
            if passes:
                line.passed = one_more(line.passed)
            if passes and reason == KEPT:
                line.kept = one_more(line.kept)

    # Times only grow, so no decision asks for more than the latest `most` of them.
    def keep_time(self, time):
        self.kept_times.append(time)
        self.kept_times = self.kept_times[-self.most:]
