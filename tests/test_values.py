import copy
import unittest

from reckoner.values import shown, size, value
from tests.helper import DEPTHS, deep, num

GREAT = 10 ** 40 + 7
HUGE = 10 ** 6000


class Value(unittest.TestCase):
    def assert_value(self, expression, wanted):
        got = value(expression)
        self.assertIs(type(got), int)
        self.assertEqual(got, wanted)

    def test_num(self):
        for number in (0, 1, -1, 7, -12, GREAT, -GREAT):
            self.assert_value(num(number), number)

    def test_add(self):
        self.assert_value(("add", num(2), num(3)), 5)
        self.assert_value(("add", num(-2), num(-3)), -5)
        self.assert_value(("add", num(4), num(-4)), 0)
        self.assert_value(("add", num(GREAT), num(1)), 10 ** 40 + 8)

    def test_sub_takes_the_second_from_the_first(self):
        self.assert_value(("sub", num(7), num(2)), 5)
        self.assert_value(("sub", num(2), num(7)), -5)
        self.assert_value(("sub", num(2), num(-7)), 9)
        self.assert_value(("sub", num(0), num(GREAT)), -GREAT)

    def test_mul(self):
        self.assert_value(("mul", num(4), num(3)), 12)
        self.assert_value(("mul", num(-4), num(3)), -12)
        self.assert_value(("mul", num(-4), num(-3)), 12)
        self.assert_value(("mul", num(GREAT), num(0)), 0)
        self.assert_value(("mul", num(GREAT), num(GREAT)), 10 ** 80 + 14 * 10 ** 40 + 49)

    def test_pick_where_c_is_not_nought(self):
        for number in (1, 2, -1, -9, GREAT, -GREAT):
            self.assert_value(("pick", num(number), num(5), num(6)), 5)

    def test_pick_where_c_is_nought(self):
        self.assert_value(("pick", num(0), num(5), num(6)), 6)

    def test_pick_gives_the_side_and_not_c(self):
        self.assert_value(("pick", num(3), num(0), num(8)), 0)
        self.assert_value(("pick", num(0), num(8), num(0)), 0)

    def test_pick_by_a_whole_expression(self):
        nought = ("sub", ("mul", num(2), num(3)), num(6))
        below = ("sub", num(2), num(3))
        self.assert_value(("pick", nought, num(5), num(6)), 6)
        self.assert_value(("pick", below, num(5), num(6)), 5)

    def test_pick_of_whole_expressions(self):
        total = ("add", num(20), num(30))
        rest = ("sub", num(20), num(30))
        self.assert_value(("pick", num(1), total, rest), 50)
        self.assert_value(("pick", num(0), total, rest), -10)

    def test_picks_within_each_part_of_a_pick(self):
        for outer in (0, 1):
            for inner in (0, 1):
                c_part = ("pick", num(outer), num(inner), num(1 - inner))
                a_part = ("pick", num(inner), num(10), num(20))
                b_part = ("pick", num(inner), num(30), num(40))
                taken = inner if outer else 1 - inner
                wanted = {(1, 1): 10, (1, 0): 20, (0, 1): 30, (0, 0): 40}[(taken, inner)]
                self.assert_value(("pick", c_part, a_part, b_part), wanted)

    def test_kinds_within_one_another(self):
        expression = ("sub", ("mul", ("add", num(1), num(2)), num(-5)), ("pick", num(0), num(9), ("sub", num(1), num(4))))
        self.assert_value(expression, -12)

    def test_deep_to_the_left(self):
        for depth in DEPTHS:
            self.assert_value(deep(num(0), depth, lambda inner: ("sub", inner, num(2))), -2 * (depth - 1))
            self.assert_value(deep(num(3), depth, lambda inner: ("mul", inner, num(10))), 3 * 10 ** (depth - 1))

    def test_deep_to_the_right(self):
        for depth in DEPTHS:
            self.assert_value(deep(num(0), depth, lambda inner: ("add", num(2), inner)), 2 * (depth - 1))
            self.assert_value(deep(num(0), depth, lambda inner: ("sub", num(1), inner)), (depth - 1) % 2)

    def test_deep_in_each_part_of_a_pick(self):
        for depth in DEPTHS:
            turned = deep(num(0), depth, lambda inner: ("pick", inner, num(0), num(1)))
            self.assert_value(turned, (depth - 1) % 2)
            self.assert_value(deep(num(4), depth, lambda inner: ("pick", num(1), inner, num(5))), 4)
            self.assert_value(deep(num(4), depth, lambda inner: ("pick", num(0), num(5), inner)), 4)


class Size(unittest.TestCase):
    def assert_size(self, expression, wanted):
        got = size(expression)
        self.assertIs(type(got), int)
        self.assertEqual(got, wanted)

    def test_a_lone_number(self):
        for number in (0, 1, -1, 25, GREAT, -GREAT):
            self.assert_size(num(number), 1)

    def test_two_parts(self):
        for sign in ("add", "sub", "mul"):
            self.assert_size((sign, num(2), num(3)), 3)
            self.assert_size((sign, (sign, num(2), num(3)), num(3)), 5)
            self.assert_size((sign, num(2), (sign, num(2), num(3))), 5)

    def test_pick_counts_all_three_parts(self):
        pair = ("add", num(2), num(3))
        for number in (0, 1, -1):
            self.assert_size(("pick", num(number), num(2), num(3)), 4)
            self.assert_size(("pick", num(number), pair, num(3)), 6)
            self.assert_size(("pick", num(number), num(2), pair), 6)
        self.assert_size(("pick", pair, num(2), num(3)), 6)
        self.assert_size(("pick", pair, ("mul", pair, num(1)), ("pick", num(1), pair, num(0))), 15)

    def test_a_tuple_that_stands_twice_counts_twice(self):
        pair = ("mul", num(2), num(2))
        self.assert_size(("add", pair, pair), 7)
        self.assert_size(("pick", pair, pair, pair), 10)

    def test_deep_to_the_left_and_to_the_right(self):
        for depth in DEPTHS:
            self.assert_size(deep(num(0), depth, lambda inner: ("sub", inner, num(2))), 2 * depth - 1)
            self.assert_size(deep(num(0), depth, lambda inner: ("mul", num(2), inner)), 2 * depth - 1)

    def test_deep_in_each_part_of_a_pick(self):
        for depth in DEPTHS:
            self.assert_size(deep(num(0), depth, lambda inner: ("pick", inner, num(0), num(1))), 3 * depth - 2)
            self.assert_size(deep(num(0), depth, lambda inner: ("pick", num(0), inner, num(1))), 3 * depth - 2)
            self.assert_size(deep(num(0), depth, lambda inner: ("pick", num(1), num(0), inner)), 3 * depth - 2)


class Shown(unittest.TestCase):
    def assert_shown(self, expression, wanted):
        got = shown(expression)
        self.assertIs(type(got), str)
        self.assertEqual(got, wanted)

    def test_a_number(self):
        self.assert_shown(num(7), "7")
        self.assert_shown(num(10), "10")
        self.assert_shown(num(1234567890), "1234567890")

    def test_nought(self):
        self.assert_shown(num(0), "0")

    def test_below_nought(self):
        self.assert_shown(num(-1), "-1")
        self.assert_shown(num(-250), "-250")

    def test_many_figures(self):
        self.assert_shown(num(GREAT), "1" + "0" * 39 + "7")
        self.assert_shown(num(-GREAT), "-1" + "0" * 39 + "7")

    def test_numbers_round_each_length(self):
        for length in range(1, 400):
            self.assert_shown(num(10 ** length - 1), "9" * length)
            self.assert_shown(num(10 ** length), "1" + "0" * length)
            self.assert_shown(num(-(10 ** length) - 1), "-1" + "0" * (length - 1) + "1")

    def test_figures_keep_their_order(self):
        self.assert_shown(num(int("1234567890" * 60)), "1234567890" * 60)
        self.assert_shown(num(int("-" + "9876543210" * 60)), "-" + "9876543210" * 60)

    def test_more_figures_than_python_writes_at_once(self):
        self.assert_shown(num(HUGE), "1" + "0" * 6000)
        self.assert_shown(num(HUGE - 1), "9" * 6000)
        self.assert_shown(num(-HUGE - 5), "-1" + "0" * 5999 + "5")
        self.assert_shown(("add", num(HUGE), num(1)), "(add 1" + "0" * 6000 + " 1)")

    def test_two_parts(self):
        self.assert_shown(("add", num(2), num(3)), "(add 2 3)")
        self.assert_shown(("sub", num(2), num(-3)), "(sub 2 -3)")
        self.assert_shown(("mul", num(-2), num(0)), "(mul -2 0)")

    def test_pick(self):
        self.assert_shown(("pick", num(1), num(2), num(3)), "(pick 1 2 3)")
        self.assert_shown(("pick", num(0), num(-2), num(3)), "(pick 0 -2 3)")

    def test_within_one_another(self):
        pair = ("add", num(1), num(2))
        self.assert_shown(("sub", pair, num(3)), "(sub (add 1 2) 3)")
        self.assert_shown(("mul", num(3), pair), "(mul 3 (add 1 2))")
        self.assert_shown(
            ("pick", pair, ("mul", num(-4), pair), ("pick", num(0), num(5), ("sub", num(6), num(7)))),
            "(pick (add 1 2) (mul -4 (add 1 2)) (pick 0 5 (sub 6 7)))",
        )

    def test_deep_to_the_left_and_to_the_right(self):
        for depth in DEPTHS:
            around = depth - 1
            self.assert_shown(
                deep(num(1), depth, lambda inner: ("sub", inner, num(-2))),
                "(sub " * around + "1" + " -2)" * around,
            )
            self.assert_shown(
                deep(num(1), depth, lambda inner: ("mul", num(-2), inner)),
                "(mul -2 " * around + "1" + ")" * around,
            )

    def test_deep_in_each_part_of_a_pick(self):
        for depth in DEPTHS:
            around = depth - 1
            self.assert_shown(
                deep(num(1), depth, lambda inner: ("pick", inner, num(2), num(3))),
                "(pick " * around + "1" + " 2 3)" * around,
            )
            self.assert_shown(
                deep(num(1), depth, lambda inner: ("pick", num(2), inner, num(3))),
                "(pick 2 " * around + "1" + " 3)" * around,
            )
            self.assert_shown(
                deep(num(1), depth, lambda inner: ("pick", num(2), num(3), inner)),
                "(pick 2 3 " * around + "1" + ")" * around,
            )


class HandedIn(unittest.TestCase):
    def test_it_is_the_same_afterwards(self):
        pair = ("sub", num(1), num(GREAT))
        expressions = [num(-3), pair, ("pick", pair, ("mul", pair, num(2)), ("add", num(0), pair))]
        before = copy.deepcopy(expressions)
        for call in (value, size, shown):
            for expression in expressions:
                call(expression)
            self.assertEqual(expressions, before)

    def test_the_same_call_answers_the_same(self):
        expression = ("pick", num(0), num(1), ("mul", num(-2), num(3)))
        for call in (value, size, shown):
            self.assertEqual(call(expression), call(expression))
