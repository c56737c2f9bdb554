"""The canonical text of a line of a menu."""

from eventsieve.reading import KIND_LETTERS

# Which conditions stand in parentheses behind `!`, and on either side of an operator.
ENCLOSED_BEHIND_NOT = "&|"
ENCLOSED_ON_THE_LEFT = {"&": "&|", "|": "|"}
ENCLOSED_ON_THE_RIGHT = {"&": "|", "|": ""}


def simple_text(step, names):
    sign = step[0]
    if sign == ">":
        least = "" if step[1] == 1 else str(step[1])
        return least + KIND_LETTERS[step[2]] + ">" + str(step[3])
    if sign == "+":
        return "+" + KIND_LETTERS[step[1]] + ">" + str(step[2])
    if sign == "~":
        return KIND_LETTERS[step[1]] + "~" + KIND_LETTERS[step[2]] + "<" + str(step[3])
    if sign == "?":
        return "?>" + str(step[1])
    return sign + names[step[1]]


def operand_text(operand, enclosed):
    sign = operand[0]
    text = operand[1]
    if sign in enclosed:
        return "(" + text + ")"
    return text


# A loop with a stack of its own: a condition may be nested deeper than calls may.
# By each text stands its outermost sign, which tells whether it needs parentheses.
def condition_text(steps, names):
    written = []
    for step in steps:
        sign = step[0]
        if sign == "!":
            text = "!" + operand_text(written.pop(), ENCLOSED_BEHIND_NOT)
        elif sign == "&" or sign == "|":
            right = operand_text(written.pop(), ENCLOSED_ON_THE_RIGHT[sign])
            left = operand_text(written.pop(), ENCLOSED_ON_THE_LEFT[sign])
            text = left + sign + right
        else:
            text = simple_text(step, names)
        written.append((sign, text))
    return written.pop()[1]


def line_text(line, names):
    text = line.name + ":" + condition_text(line.steps, names)
    if line.prescale != 1:
        text += "/" + str(line.prescale)
    return text
