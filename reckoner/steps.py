"""Rows of steps, run on a pile of numbers."""

from reckoner.errors import NoSteps
from reckoner.values import outcome


class Pile:
    def __init__(self):
        self.numbers = []
        self.most = 0

    def lay(self, number):
        self.numbers.append(number)
        self.most = max(self.most, len(self.numbers))

    def take(self):
        if len(self.numbers) == 0:
            raise NoSteps("a step takes a number off an empty pile")
        return self.numbers.pop()


def ran(steps):
    return pile_behind(steps).numbers[0]


def room(steps):
    return pile_behind(steps).most


def pile_behind(steps):
    pile = Pile()
    place = 0
    while place < len(steps):
        place = place_after(steps, place, pile)
    if len(pile.numbers) != 1:
        raise NoSteps("a row leaves more or less than one number")
    return pile


def place_after(steps, place, pile):
    step = steps[place]
    sign = step[0]
    if sign == "skip":
        return landing(steps, place, step[1])
    if sign == "fork":
        # A K that leads too far is refused also where the number is not nought, so it is looked at first.
        target = landing(steps, place, step[1])
        if pile.take() == 0:
            return target
    elif sign == "push":
        pile.lay(step[1])
    else:
        second = pile.take()
        first = pile.take()
        pile.lay(outcome(sign, first, second))
    return place + 1


def landing(steps, place, left_out):
    target = place + 1 + left_out
    if left_out < 0 or target > len(steps):
        raise NoSteps("a skip or fork leads back or too far")
    return target
