import copy
import itertools
import unittest

from reckoner.errors import NoSteps
from reckoner.steps import ran, room
from reckoner.turning import reckoned, steps_of
from reckoner.values import value
from tests.helper import DEPTHS, deep, num

GREAT = 10 ** 40 + 7
HUGE = 10 ** 6000
NUMBERS = (-2, 0, 3)
TWO_PARTED = ("add", "sub", "mul")


def low_expressions():
    """Every expression of at most two levels over NUMBERS."""
    lone = [num(number) for number in NUMBERS]
    pairs = [(sign, a, b) for sign in TWO_PARTED for a in lone for b in lone]
    picks = [("pick", c, a, b) for c in lone for a in lone for b in lone]
    return lone + pairs + picks


def many_expressions():
    """Low ones, all pairs of them under each sign, and picks of three of them, every one standing in each part."""
    low = low_expressions()
    yield from low
    for sign in TWO_PARTED:
        for a, b in itertools.product(low, repeat=2):
            yield (sign, a, b)
    for place, part in enumerate(low):
        for step in range(1, len(low), 3):
            others = (low[(place + step) % len(low)], low[(place + 5 * step) % len(low)])
            yield ("pick", part) + others
            yield ("pick", others[0], part, others[1])
            yield ("pick",) + others + (part,)


def tall_expressions():
    """Expressions of growing depth, each made of the two ahead of it, with a pick in every other one."""
    first, second = ("sub", num(3), num(5)), ("pick", num(0), num(4), num(-1))
    for turn in range(12):
        yield first
        sign = TWO_PARTED[turn % 3]
        nought = ("sub", first, first)
        joined = (sign, second, ("pick", nought if turn % 2 else second, num(turn), first))
        first, second = second, joined


def wide(count):
    """An expression of value `count` whose row needs room for `count` numbers."""
    return deep(num(1), count, lambda inner: ("add", num(1), inner))


class StepsOf(unittest.TestCase):
    def assert_steps(self, expression, wanted):
        got = steps_of(expression)
        self.assertIs(type(got), list)
        for step in got:
            self.assertIs(type(step), tuple)
        self.assertEqual(got, wanted)

    def test_num(self):
        for number in (0, 1, -1, 25, GREAT, -GREAT, HUGE):
            self.assert_steps(num(number), [("push", number)])

    def test_two_parts(self):
        for sign in TWO_PARTED:
            self.assert_steps((sign, num(2), num(3)), [("push", 2), ("push", 3), (sign,)])

    def test_two_parts_within_one_another(self):
        pair = ("mul", num(1), num(2))
        of_pair = [("push", 1), ("push", 2), ("mul",)]
        for sign in TWO_PARTED:
            self.assert_steps((sign, pair, num(3)), of_pair + [("push", 3), (sign,)])
            self.assert_steps((sign, num(3), pair), [("push", 3)] + of_pair + [(sign,)])
            self.assert_steps((sign, pair, pair), of_pair + of_pair + [(sign,)])

    def test_pick(self):
        for number in (0, 1, -1):
            self.assert_steps(
                ("pick", num(number), num(5), num(6)),
                [("push", number), ("fork", 2), ("push", 5), ("skip", 1), ("push", 6)],
            )

    def test_the_fork_is_over_a_and_one_more_and_the_skip_over_b(self):
        for a_count, b_count in itertools.product((1, 2, 3, 7), repeat=2):
            of_a = [("push", 1)] * a_count + [("add",)] * (a_count - 1)
            of_b = [("push", 1)] * b_count + [("add",)] * (b_count - 1)
            self.assert_steps(
                ("pick", num(4), wide(a_count), wide(b_count)),
                [("push", 4), ("fork", 2 * a_count)] + of_a + [("skip", 2 * b_count - 1)] + of_b,
            )

    def test_a_great_c_changes_neither_fork_nor_skip(self):
        self.assert_steps(
            ("pick", wide(3), num(5), num(6)),
            [("push", 1)] * 3 + [("add",)] * 2 + [("fork", 2), ("push", 5), ("skip", 1), ("push", 6)],
        )

    def test_picks_within_each_part_of_a_pick(self):
        inner = ("pick", num(1), num(2), ("sub", num(3), num(4)))
        of_inner = [
            ("push", 1), ("fork", 2), ("push", 2), ("skip", 3), ("push", 3), ("push", 4), ("sub",),
        ]
        self.assert_steps(
            ("pick", inner, num(8), num(9)),
            of_inner + [("fork", 2), ("push", 8), ("skip", 1), ("push", 9)],
        )
        self.assert_steps(
            ("pick", num(7), inner, num(9)),
            [("push", 7), ("fork", 8)] + of_inner + [("skip", 1), ("push", 9)],
        )
        self.assert_steps(
            ("pick", num(7), num(8), inner),
            [("push", 7), ("fork", 2), ("push", 8), ("skip", 7)] + of_inner,
        )
        self.assert_steps(
            ("pick", inner, inner, inner),
            of_inner + [("fork", 8)] + of_inner + [("skip", 7)] + of_inner,
        )

    def test_picks_under_the_other_kinds(self):
        inner = ("pick", num(0), num(1), num(2))
        of_inner = [("push", 0), ("fork", 2), ("push", 1), ("skip", 1), ("push", 2)]
        for sign in TWO_PARTED:
            self.assert_steps((sign, inner, num(3)), of_inner + [("push", 3), (sign,)])
            self.assert_steps((sign, num(3), inner), [("push", 3)] + of_inner + [(sign,)])

    def test_deep_to_the_left_and_to_the_right(self):
        for depth in DEPTHS:
            around = depth - 1
            self.assert_steps(
                deep(num(1), depth, lambda inner: ("sub", inner, num(2))),
                [("push", 1)] + [("push", 2), ("sub",)] * around,
            )
            self.assert_steps(
                deep(num(1), depth, lambda inner: ("mul", num(2), inner)),
                [("push", 2)] * around + [("push", 1)] + [("mul",)] * around,
            )

    def test_deep_in_each_part_of_a_pick(self):
        for depth in DEPTHS:
            around = depth - 1
            of_c = [("push", 1)] + [("fork", 2), ("push", 0), ("skip", 1), ("push", 5)] * around
            self.assert_steps(deep(num(1), depth, lambda inner: ("pick", inner, num(0), num(5))), of_c)
            of_a, of_b = [("push", 1)], [("push", 1)]
            for _ in range(around):
                of_a = [("push", 3), ("fork", len(of_a) + 1)] + of_a + [("skip", 1), ("push", 5)]
                of_b = [("push", 3), ("fork", 2), ("push", 5), ("skip", len(of_b))] + of_b
            self.assert_steps(deep(num(1), depth, lambda inner: ("pick", num(3), inner, num(5))), of_a)
            self.assert_steps(deep(num(1), depth, lambda inner: ("pick", num(3), num(5), inner)), of_b)


class Reckoned(unittest.TestCase):
    def assert_reckoned(self, expression, wanted):
        got = reckoned(expression)
        self.assertIs(type(got), int)
        self.assertEqual(got, wanted)

    def test_each_kind(self):
        for number in (0, 1, -1, GREAT, -GREAT, HUGE):
            self.assert_reckoned(num(number), number)
        self.assert_reckoned(("add", num(7), num(2)), 9)
        self.assert_reckoned(("sub", num(7), num(2)), 5)
        self.assert_reckoned(("sub", num(2), num(7)), -5)
        self.assert_reckoned(("mul", num(7), num(-2)), -14)

    def test_pick(self):
        for number in (1, 2, -1, -9, GREAT, -GREAT):
            self.assert_reckoned(("pick", num(number), num(5), num(6)), 5)
        self.assert_reckoned(("pick", num(0), num(5), num(6)), 6)

    def test_picks_within_picks(self):
        for outer, inner in itertools.product((0, 1, -1), repeat=2):
            choice = ("pick", num(inner), num(10), num(20))
            self.assert_reckoned(("pick", num(outer), choice, num(30)), (10 if inner else 20) if outer else 30)
            self.assert_reckoned(("pick", num(outer), num(30), choice), 30 if outer else (10 if inner else 20))
            by = ("pick", num(outer), num(inner), num(0))
            self.assert_reckoned(("pick", by, num(40), num(50)), 40 if outer and inner else 50)

    def test_both_ways_give_the_same(self):
        for expression in itertools.chain(many_expressions(), tall_expressions()):
            wanted = value(expression)
            self.assert_reckoned(expression, wanted)
            self.assertEqual(ran(steps_of(expression)), wanted)

    def test_deep_to_the_left_and_to_the_right(self):
        for depth in DEPTHS:
            around = depth - 1
            self.assert_reckoned(deep(num(0), depth, lambda inner: ("sub", inner, num(2))), -2 * around)
            self.assert_reckoned(deep(num(3), depth, lambda inner: ("mul", inner, num(10))), 3 * 10 ** around)
            self.assert_reckoned(deep(num(0), depth, lambda inner: ("add", num(2), inner)), 2 * around)
            self.assert_reckoned(deep(num(0), depth, lambda inner: ("sub", num(1), inner)), around % 2)

    def test_deep_in_each_part_of_a_pick(self):
        for depth in DEPTHS:
            turned = deep(num(0), depth, lambda inner: ("pick", inner, num(0), num(1)))
            self.assert_reckoned(turned, (depth - 1) % 2)
            for start in (4, 0, -4):
                self.assert_reckoned(deep(num(start), depth, lambda inner: ("pick", num(-1), inner, num(5))), start)
                self.assert_reckoned(deep(num(start), depth, lambda inner: ("pick", num(0), num(5), inner)), start)

    def test_a_row_of_more_than_a_thousand_steps(self):
        full = deep(num(1), 12, lambda inner: ("add", inner, inner))
        self.assertEqual(len(steps_of(full)), 2 ** 12 - 1)
        self.assert_reckoned(full, 2 ** 11)


class OneSideLeftOut(unittest.TestCase):
    def test_only_the_side_that_is_taken_needs_room(self):
        for number in (0, 1, -1):
            self.assertEqual(room(steps_of(("pick", num(number), wide(5), wide(3)))), 5 if number else 3)
            self.assertEqual(room(steps_of(("pick", num(number), wide(3), wide(5)))), 3 if number else 5)

    def test_the_side_that_is_taken_is_come_to_and_the_other_is_not(self):
        a_part, b_part = ("sub", num(8), num(2)), ("mul", num(3), num(5))
        for number in (0, 1, -1):
            steps = steps_of(("pick", num(number), a_part, b_part))
            a_spoiled = steps[:2] + [("skip", -1)] * 3 + steps[5:]
            b_spoiled = steps[:6] + [("skip", -1)] * 3
            left_out, come_to = (b_spoiled, a_spoiled) if number else (a_spoiled, b_spoiled)
            self.assertEqual(ran(left_out), 6 if number else 15)
            with self.assertRaises(NoSteps):
                ran(come_to)

    def test_a_pick_within_a_side_that_is_left_out(self):
        inner = ("pick", num(1), wide(6), wide(7))
        self.assertEqual(room(steps_of(("pick", num(0), inner, wide(2)))), 2)
        self.assertEqual(room(steps_of(("pick", num(3), wide(2), inner))), 2)
        self.assertEqual(room(steps_of(("pick", num(3), inner, wide(2)))), 6)


class HandedIn(unittest.TestCase):
    def test_an_expression_is_the_same_afterwards(self):
        pair = ("sub", num(1), num(GREAT))
        expressions = [num(-3), pair, ("pick", pair, ("mul", pair, num(2)), ("add", num(0), pair))]
        before = copy.deepcopy(expressions)
        for call in (steps_of, reckoned):
            for expression in expressions:
                call(expression)
            self.assertEqual(expressions, before)

    def test_each_row_is_a_new_list(self):
        expression = ("pick", num(0), num(1), ("mul", num(-2), num(3)))
        first = steps_of(expression)
        wanted = list(first)
        first.clear()
        self.assertEqual(steps_of(expression), wanted)
        self.assertEqual(reckoned(expression), -6)
        self.assertEqual(reckoned(expression), -6)
