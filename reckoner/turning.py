"""Expressions turned into rows of steps."""

from reckoner.steps import ran


def steps_of(expression):
    sign = expression[0]
    if sign == "num":
        return [("push", expression[1])]
    if sign == "pick":
        return pick_steps(steps_of(expression[1]), steps_of(expression[2]), steps_of(expression[3]))
    return steps_of(expression[1]) + steps_of(expression[2]) + [(sign,)]


def pick_steps(c_steps, a_steps, b_steps):
    # Where the number is nought, the skip behind the steps of A is left out with them.
    fork = ("fork", len(a_steps) + 1)
    skip = ("skip", len(b_steps))
    return c_steps + [fork] + a_steps + [skip] + b_steps


def reckoned(expression):
    return ran(steps_of(expression))
