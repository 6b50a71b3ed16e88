"""Expressions by themselves: what they are worth, how great they are, how they are written."""


def value(expression):
    sign = expression[0]
    if sign == "num":
        return expression[1]
    if sign == "pick":
        if value(expression[1]) != 0:
            return value(expression[2])
        return value(expression[3])
    return outcome(sign, value(expression[1]), value(expression[2]))


# Both ways of reckoning use this one, so that a sign means the same in an expression and in a row of steps.
def outcome(sign, first, second):
    if sign == "add":
        return first + second
    if sign == "sub":
        return first - second
    return first * second


def size(expression):
    if expression[0] == "num":
        return 1
    total = 1
    for part in expression[1:]:
        total = total + size(part)
    return total


def shown(expression):
    if expression[0] == "num":
        return number_shown(expression[1])
    words = [expression[0]]
    for part in expression[1:]:
        words.append(shown(part))
    return "(" + " ".join(words) + ")"


def number_shown(number):
    if number < 0:
        return "-" + figures(-number)
    return figures(number)


# Python refuses to write a number of some thousand figures at once, but no point bounds a number:
# so it is written in blocks, each of them short enough.
def figures(number):
    bound = 10 ** 60
    blocks = []
    rest = number
    while rest >= bound:
        blocks.append(str(rest % bound).zfill(60))
        rest = rest // bound
    blocks.append(str(rest))
    blocks.reverse()
    return "".join(blocks)
