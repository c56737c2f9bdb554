"""Which lines of a menu hold for an event."""

from eventsieve.objects import nearest_distances, nearest_place


class Facts:
    # In `before` and `holding` stand, line by line, whether it held for the
    # event just ahead and whether it holds for this one, as far as is known.
    def __init__(self, objects, ranked, score, before):
        self.ranked = ranked
        self.totals = [sum(ranking) for ranking in ranked]
        self.nearest = nearest_distances(objects)
        self.score = score
        self.before = before
        self.holding = []


def simple_holds(step, facts):
    sign = step[0]
    if sign == ">":
        ranking = facts.ranked[step[2]]
        return len(ranking) >= step[1] and ranking[step[1] - 1] > step[3]
    if sign == "+":
        return facts.totals[step[1]] > step[2]
    if sign == "~":
        return facts.nearest[nearest_place(step[1], step[2])] < step[3]
    if sign == "?":
        return facts.score > step[1]
    if sign == "@":
        return facts.holding[step[1]]
    return facts.before[step[1]]


# A loop with a stack of its own: a condition may be nested deeper than calls may.
def condition_holds(steps, facts):
    results = []
    for step in steps:
        sign = step[0]
        if sign == "!":
            results.append(not results.pop())
        elif sign == "&" or sign == "|":
            right = results.pop()
            left = results.pop()
            results.append((left and right) if sign == "&" else (left or right))
        else:
            results.append(simple_holds(step, facts))
    return results.pop()


def lines_that_hold(lines, facts):
    for line in lines:
        facts.holding.append(condition_holds(line.steps, facts))
    return facts.holding
