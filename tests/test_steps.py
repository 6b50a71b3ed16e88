import copy
import itertools
import unittest

from reckoner.errors import NoSteps, StepError
from reckoner.steps import ran, room

GREAT = 10 ** 40 + 7
HUGE = 10 ** 6000

ADD = ("add",)
SUB = ("sub",)
MUL = ("mul",)


def push(number):
    return ("push", number)


def skip(left_out):
    return ("skip", left_out)


def fork(left_out):
    return ("fork", left_out)


REFUSED = {
    "the empty row": [],
    "an add on no number": [ADD],
    "a sub on no number": [SUB],
    "a mul on no number": [MUL],
    "a fork on no number": [fork(0)],
    "a fork on no number, ahead of a push": [fork(0), push(1)],
    "a fork on no number that leaves some out": [fork(1), push(1), push(2)],
    "an add on one number": [push(1), ADD],
    "a sub on one number": [push(1), SUB],
    "a mul on one number": [push(1), MUL],
    "an add on one number, which a push would make good": [push(1), ADD, push(2)],
    "a step on a pile that was emptied": [push(1), fork(0), ADD, push(2)],
    "a fork on a pile that was emptied": [push(1), fork(0), fork(0), push(2)],
    "a step on one number behind others": [push(1), push(2), ADD, SUB],
    "a skip of less than nought": [push(1), skip(-1)],
    "a skip of less than nought, ahead of others": [skip(-1), push(1)],
    "a skip far below nought": [push(1), skip(-GREAT)],
    "a skip that would lead back to the first": [push(1), skip(-2), push(2), ADD],
    "a fork of less than nought, on nought": [push(1), push(0), fork(-1)],
    "a fork of less than nought, on another number": [push(1), push(5), fork(-1)],
    "a fork far below nought": [push(1), push(0), fork(-GREAT)],
    "a fork far below nought, on another number": [push(1), push(5), fork(-GREAT)],
    "a skip of one as the last": [push(1), skip(1)],
    "a skip one too far": [push(1), skip(3), push(2), push(3)],
    "a skip much too far": [push(1), skip(GREAT)],
    "a skip of more figures than Python writes": [push(1), skip(HUGE)],
    "a skip too far on an empty pile": [skip(2), push(1)],
    "a fork of one as the last, on nought": [push(1), push(0), fork(1)],
    "a fork of one as the last, on another number": [push(1), push(5), fork(1)],
    "a fork one too far, on nought": [push(1), push(0), fork(3), push(2), ADD],
    "a fork one too far, on another number": [push(1), push(5), fork(3), push(2), ADD],
    "a fork one too far, on a number below nought": [push(1), push(-5), fork(3), push(2), ADD],
    "a fork much too far, on nought": [push(1), push(0), fork(GREAT)],
    "a fork much too far, on another number": [push(1), push(5), fork(GREAT)],
    "a fork of more figures than Python writes": [push(1), push(5), fork(-HUGE)],
    "two numbers left": [push(1), push(2)],
    "three numbers left": [push(1), push(2), push(3)],
    "two numbers left behind steps": [push(1), push(2), push(3), ADD],
    "two numbers left by a skip over the last": [push(1), push(2), skip(1), ADD],
    "two numbers left by a fork over the last": [push(1), push(2), push(0), fork(1), ADD],
    "no number left by a fork": [push(1), fork(0)],
    "no number left by a fork on nought": [push(0), fork(0)],
    "no number left by a fork over the last": [push(0), fork(1), push(3)],
    "no number left by a skip over all": [skip(1), push(1)],
    "no number laid by a skip of nought": [skip(0)],
    "no number laid by many skips": [skip(0), skip(1), push(1), skip(0)],
}

WRONG_STEPS = (
    ADD, SUB, MUL, fork(0), fork(-1), fork(9), fork(GREAT), skip(-1), skip(9), skip(GREAT), push(3),
)


def reference(steps, pile):
    """The number and the room of a row, or None where it is refused; by what is still ahead of it."""
    if not steps:
        return (pile[0], len(pile)) if len(pile) == 1 else None
    sign, rest = steps[0][0], steps[1:]
    if sign == "push":
        further = reference(rest, pile + [steps[0][1]])
    elif sign in ("skip", "fork"):
        left_out = steps[0][1]
        if left_out not in range(len(rest) + 1) or (sign == "fork" and not pile):
            return None
        if sign == "skip":
            further = reference(rest[left_out:], pile)
        else:
            further = reference(rest if pile[-1] else rest[left_out:], pile[:-1])
    else:
        if len(pile) < 2:
            return None
        first, second = pile[-2:]
        got = {"add": first + second, "sub": first - second, "mul": first * second}[sign]
        further = reference(rest, pile[:-2] + [got])
    return further and (further[0], max(further[1], len(pile)))


class Given(unittest.TestCase):
    def assert_ran(self, steps, wanted):
        got = ran(steps)
        self.assertIs(type(got), int)
        self.assertEqual(got, wanted)


class Ran(Given):
    def test_push(self):
        for number in (0, 1, -1, 25, GREAT, -GREAT, HUGE):
            self.assert_ran([push(number)], number)

    def test_add(self):
        self.assert_ran([push(2), push(3), ADD], 5)
        self.assert_ran([push(2), push(-3), ADD], -1)
        self.assert_ran([push(GREAT), push(1), ADD], 10 ** 40 + 8)

    def test_sub_has_the_upper_number_as_the_second(self):
        self.assert_ran([push(7), push(2), SUB], 5)
        self.assert_ran([push(2), push(7), SUB], -5)
        self.assert_ran([push(2), push(-7), SUB], 9)
        self.assert_ran([push(0), push(GREAT), SUB], -GREAT)

    def test_mul(self):
        self.assert_ran([push(4), push(3), MUL], 12)
        self.assert_ran([push(-4), push(3), MUL], -12)
        self.assert_ran([push(-4), push(-3), MUL], 12)
        self.assert_ran([push(GREAT), push(0), MUL], 0)

    def test_steps_take_the_two_upmost_alone(self):
        self.assert_ran([push(100), push(7), push(2), SUB, SUB], 95)
        self.assert_ran([push(100), push(7), SUB, push(2), SUB], 91)
        self.assert_ran([push(5), push(4), push(3), ADD, MUL], 35)
        self.assert_ran([push(5), push(4), push(3), MUL, ADD], 17)
        self.assert_ran([push(1), push(2), push(3), push(4), SUB, SUB, SUB], -2)

    def test_skip_of_nought(self):
        self.assert_ran([skip(0), push(1)], 1)
        self.assert_ran([push(1), skip(0), push(2), ADD], 3)
        self.assert_ran([push(1), skip(0)], 1)

    def test_skip_of_some(self):
        self.assert_ran([push(1), skip(1), push(2), push(3), SUB], -2)
        self.assert_ran([push(1), skip(2), push(2), push(9), push(3), SUB], -2)
        self.assert_ran([skip(3), push(1), push(2), push(3), push(4)], 4)

    def test_skip_right_behind_the_last(self):
        self.assert_ran([push(1), skip(1), push(2)], 1)
        self.assert_ran([push(1), skip(3), push(2), push(3), ADD], 1)

    def test_skip_takes_nothing_off(self):
        self.assert_ran([push(0), skip(1), push(2)], 0)
        self.assert_ran([push(0), push(4), skip(1), push(2), ADD], 4)

    def test_skip_onto_a_skip_or_a_fork(self):
        self.assert_ran([push(1), skip(1), push(2), skip(1), push(3)], 1)
        self.assert_ran([push(1), push(0), skip(1), push(2), fork(1), push(3)], 1)

    def test_fork_on_nought(self):
        self.assert_ran([push(0), fork(1), push(2), push(3)], 3)
        self.assert_ran([push(8), push(0), fork(2), push(2), ADD, push(3), SUB], 5)

    def test_fork_on_another_number(self):
        for number in (1, 2, 7, GREAT, HUGE):
            self.assert_ran([push(number), fork(1), push(2), skip(1), push(3)], 2)
            self.assert_ran([push(8), push(number), fork(2), push(2), ADD, push(3), SUB], 7)

    def test_fork_on_a_number_below_nought(self):
        for number in (-1, -2, -7, -GREAT, -HUGE):
            self.assert_ran([push(number), fork(1), push(2), skip(1), push(3)], 2)
            self.assert_ran([push(8), push(number), fork(2), push(2), ADD, push(3), SUB], 7)

    def test_fork_of_nought_only_takes_off(self):
        for number in (0, 1, -1):
            self.assert_ran([push(5), push(number), fork(0)], 5)
            self.assert_ran([push(number), fork(0), push(6)], 6)
            self.assert_ran([push(5), push(number), fork(0), push(6), SUB], -1)

    def test_fork_right_behind_the_last(self):
        self.assert_ran([push(5), push(0), fork(2), push(1), ADD], 5)
        self.assert_ran([push(5), push(3), fork(2), push(1), ADD], 6)
        self.assert_ran([push(5), push(0), fork(1), ADD], 5)

    def test_fork_on_a_number_that_was_reckoned(self):
        self.assert_ran([push(4), push(4), SUB, fork(2), push(1), skip(1), push(2)], 2)
        self.assert_ran([push(3), push(4), SUB, fork(2), push(1), skip(1), push(2)], 1)

    def test_a_thousand_steps_and_somewhat_more(self):
        for count in (333, 500, 501, 700):
            climbing = [push(1)] + [push(2), SUB] * count
            self.assert_ran(climbing, 1 - 2 * count)
            self.assert_ran([push(1)] * (count + 1) + [ADD] * count, count + 1)
            self.assert_ran([push(9)] + [skip(1), ADD] * count, 9)
            self.assert_ran([push(9), skip(2 * count)] + [ADD, MUL] * count, 9)
            self.assert_ran([push(9), push(0), fork(2 * count)] + [ADD, MUL] * count, 9)
        self.assert_ran([push(1)] + [push(1), ADD] * 499 + [skip(0)], 500)

    def test_a_tuple_that_stands_twice(self):
        step = push(3)
        self.assert_ran([step, step, MUL], 9)


class NotComeTo(Given):
    def test_left_out_by_a_skip(self):
        for step in WRONG_STEPS:
            with self.subTest(step=step):
                self.assert_ran([skip(1), step, push(4)], 4)
                self.assert_ran([push(4), skip(1), step], 4)
                self.assert_ran([push(4), skip(3), step, step, step, push(1), SUB], 3)
                self.assertEqual(room([skip(1), step, push(4)]), 1)
                self.assertEqual(room([push(4), skip(1), step]), 1)

    def test_left_out_by_a_fork(self):
        for step in WRONG_STEPS:
            with self.subTest(step=step):
                self.assert_ran([push(0), fork(1), step, push(4)], 4)
                self.assert_ran([push(4), push(0), fork(1), step], 4)
                self.assertEqual(room([push(0), fork(1), step, push(4)]), 1)
                self.assertEqual(room([push(4), push(0), fork(1), step]), 2)

    def test_whole_rows_that_would_be_refused(self):
        for name, steps in REFUSED.items():
            with self.subTest(name):
                self.assert_ran([push(4), skip(len(steps))] + steps, 4)
                self.assert_ran([skip(len(steps))] + steps + [push(4)], 4)
                self.assert_ran([push(4), push(0), fork(len(steps))] + steps, 4)
                self.assertEqual(room([push(4), skip(len(steps))] + steps), 1)

    def test_come_to_by_a_fork_that_leaves_nothing_out(self):
        for step in WRONG_STEPS:
            with self.subTest(step=step):
                for call in (ran, room):
                    with self.assertRaises(NoSteps):
                        call([push(1), fork(1), step, push(4)])


class Refused(unittest.TestCase):
    def test_each_is_refused_by_ran(self):
        for name, steps in REFUSED.items():
            with self.subTest(name), self.assertRaises(NoSteps):
                ran(steps)

    def test_each_is_refused_by_room(self):
        for name, steps in REFUSED.items():
            with self.subTest(name), self.assertRaises(NoSteps):
                room(steps)

    def test_it_is_a_step_error_and_a_value_error(self):
        for call in (ran, room):
            for error in (StepError, ValueError):
                with self.assertRaises(error):
                    call([])

    def test_a_thousand_numbers_left(self):
        for call in (ran, room):
            for count in (999, 1000, 1001, 1500):
                with self.assertRaises(NoSteps):
                    call([push(1)] * count)
                with self.assertRaises(NoSteps):
                    call([push(1)] * count + [ADD] * count)

    def test_a_row_runs_after_one_was_refused(self):
        for call in (ran, room):
            with self.assertRaises(NoSteps):
                call([push(1), push(2)])
            self.assertEqual(call([push(1)]), 1)


class Room(unittest.TestCase):
    def assert_room(self, steps, wanted):
        got = room(steps)
        self.assertIs(type(got), int)
        self.assertEqual(got, wanted)

    def test_one_push(self):
        for number in (0, 1, -1, 9, GREAT):
            self.assert_room([push(number)], 1)

    def test_growing_and_falling(self):
        self.assert_room([push(5), push(6), ADD], 2)
        self.assert_room([push(5), push(6), push(7), MUL, SUB], 3)
        self.assert_room([push(5), push(6), MUL, push(7), SUB], 2)
        self.assert_room([push(1), push(2), ADD, push(3), push(4), ADD, MUL], 3)

    def test_the_greatest_of_several_heights(self):
        tall = [push(1), push(2), push(3), push(4), ADD, ADD, ADD]
        low = [push(1), push(2), ADD]
        self.assert_room(tall + low + [ADD], 4)
        self.assert_room(low + tall + [ADD], 5)
        self.assert_room(tall + tall + [ADD], 5)

    def test_forks_take_off(self):
        self.assert_room([push(1), fork(0), push(2)], 1)
        self.assert_room([push(1), push(1), fork(0), push(2), ADD], 2)
        self.assert_room([push(1), fork(0)] * 9 + [push(0), fork(0), push(2)], 1)

    def test_a_fork_at_the_greatest_height(self):
        self.assert_room([push(1), push(2), push(0), fork(1), push(9), ADD], 3)

    def test_skips_lay_nothing(self):
        self.assert_room([skip(0), push(1), skip(0)], 1)

    def test_steps_that_are_left_out(self):
        self.assert_room([push(1), skip(3), push(2), push(3), push(4)], 1)
        self.assert_room([push(1), skip(4), push(2), push(3), ADD, ADD, push(4), ADD], 2)
        self.assert_room([push(0), fork(4), push(1), push(2), push(3), push(4), push(5)], 1)

    def test_one_side_of_a_fork(self):
        wide = [push(1), push(2), push(3), push(4), ADD, ADD, ADD]
        narrow = [push(1), push(2), ADD]
        for number, wanted in ((0, 2), (1, 4), (-1, 4)):
            self.assert_room([push(number), fork(len(wide) + 1)] + wide + [skip(len(narrow))] + narrow, wanted)
        for number, wanted in ((0, 4), (1, 2), (-1, 2)):
            self.assert_room([push(number), fork(len(narrow) + 1)] + narrow + [skip(len(wide))] + wide, wanted)

    def test_a_thousand_steps_and_somewhat_more(self):
        for count in (1, 333, 500, 501, 700):
            self.assert_room([push(1)] * (count + 1) + [ADD] * count, count + 1)
            self.assert_room([push(1)] + [push(2), SUB] * count, 2)
            self.assert_room([push(1), skip(2 * count)] + [push(2), push(3)] * count, 1)


class AllShortRows(unittest.TestCase):
    def test_ran_and_room_against_the_reference(self):
        steps = (push(0), push(3), ADD, SUB, MUL, skip(-1), skip(0), skip(1), skip(2), fork(-1), fork(0), fork(1), fork(2))
        for length in range(5):
            for row in itertools.product(steps, repeat=length):
                self.check(list(row))

    def check(self, row):
        wanted = reference(row, [])
        if wanted is None:
            self.assertRaises(NoSteps, ran, row)
            self.assertRaises(NoSteps, room, row)
        else:
            self.assertEqual((ran(row), room(row)), wanted, row)


class HandedIn(unittest.TestCase):
    def test_a_row_is_the_same_afterwards(self):
        row = [push(0), fork(2), push(1), skip(3), push(GREAT), push(3), SUB]
        kept = list(row)
        for call in (ran, room):
            call(row)
            self.assertEqual(row, kept)
            for step, before in zip(row, kept):
                self.assertIs(step, before)

    def test_a_row_that_is_refused_is_the_same_afterwards(self):
        for name, steps in REFUSED.items():
            for call in (ran, room):
                row = copy.deepcopy(steps)
                with self.subTest(name):
                    self.assertRaises(NoSteps, call, row)
                    self.assertEqual(row, steps)

    def test_the_same_row_answers_the_same(self):
        row = [push(5), push(7), SUB, fork(2), push(1), skip(1), push(2)]
        for call in (ran, room):
            self.assertEqual(call(row), call(row))
