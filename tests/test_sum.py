"""The sum of two fractions, told in lowest terms; -6 for what is no right fraction, -9 above 1."""

import contextlib
import io
import itertools
import math
import random
import unittest

from chancehalldesk import desk
from tests.helper import (
    ALL_NOT_RIGHT, GREATEST_PART, NOT_RIGHT, RIGHT, ask_numbers, ending_at_once, fibonacci, model_sum)


def sum_of(first, second):
    return ask_numbers(desk.sum_of, *first, *second)


class Adding(unittest.TestCase):
    def both_ways(self, first, second, answer):
        self.assertEqual(sum_of(first, second), answer, (first, second))
        self.assertEqual(sum_of(second, first), answer, (second, first))


class OrdinarySums(Adding):
    def test_the_same_under(self):
        self.both_ways((1, 5), (2, 5), [0, 3, 5])
        self.both_ways((1, 4), (1, 4), [0, 1, 2])
        self.both_ways((1, 9), (5, 9), [0, 2, 3])
        self.both_ways((7, 30), (11, 30), [0, 3, 5])

    def test_unders_with_a_divisor_in_common(self):
        self.both_ways((1, 4), (1, 6), [0, 5, 12])
        self.both_ways((1, 6), (3, 10), [0, 7, 15])
        self.both_ways((1, 5), (6, 35), [0, 13, 35])
        self.both_ways((1, 2), (1, 6), [0, 2, 3])
        self.both_ways((1, 40), (1, 45), [0, 17, 360])

    def test_unders_without_a_divisor_in_common(self):
        self.both_ways((1, 2), (1, 3), [0, 5, 6])
        self.both_ways((2, 5), (3, 7), [0, 29, 35])
        self.both_ways((1, 1000), (1, 999), [0, 1999, 999000])

    def test_nothing_added(self):
        self.assertEqual(sum_of((0, 1), (0, 1)), [0, 0, 1])
        for over, under in RIGHT:
            self.both_ways((0, 1), (over, under), [0, over, under])

    def test_all_small_fractions(self):
        for numbers in itertools.product(range(7), range(8), range(7), range(8)):
            self.assertEqual(ask_numbers(desk.sum_of, *numbers), model_sum(*numbers), numbers)

    def test_first_arguments_are_the_first_fraction(self):
        self.assertEqual(desk.sum_of(over=1, under=2, other_over=1, other_under=3), [0, 5, 6])


class AroundOne(Adding):
    def test_all_with_others(self):
        self.both_ways((1, 1), (0, 1), [0, 1, 1])
        self.assertEqual(sum_of((1, 1), (1, 1)), [-9])
        for fraction in RIGHT:
            if fraction != (0, 1):
                self.both_ways((1, 1), fraction, [-9])

    def test_just_one(self):
        self.assertEqual(sum_of((1, 2), (1, 2)), [0, 1, 1])
        self.both_ways((1, 3), (2, 3), [0, 1, 1])
        for under in (5, 1000, 2 ** 64, 2 ** 399, GREATEST_PART):
            self.both_ways((1, under), (under - 1, under), [0, 1, 1])
        half = GREATEST_PART // 2
        self.both_ways((half, GREATEST_PART), (half + 1, GREATEST_PART), [0, 1, 1])

    def test_the_least_bit_above(self):
        self.both_ways((2, 3), (1, 2), [-9])
        for under in (5, 1000, 2 ** 64, 2 ** 399, GREATEST_PART):
            self.both_ways((1, under - 1), (under - 1, under), [-9])
        half = GREATEST_PART // 2
        self.assertEqual(sum_of((half + 1, GREATEST_PART), (half + 1, GREATEST_PART)), [-9])

    def test_the_least_bit_below(self):
        for under in (5, 1000, 2 ** 64, 2 ** 399, GREATEST_PART - 1):
            self.both_ways((1, under + 1), (under - 1, under), [0, under * under + under - 1, under * under + under])
        half = GREATEST_PART // 2
        self.assertEqual(sum_of((half, GREATEST_PART), (half, GREATEST_PART)), [0, GREATEST_PART - 1, GREATEST_PART])


class NotRight(unittest.TestCase):
    def refused(self, first, second):
        self.assertEqual(sum_of(first, second), [-6], (first, second))

    def test_one_by_itself(self):
        for way, pairs in NOT_RIGHT.items():
            for wrong, right in itertools.product(pairs, RIGHT):
                self.refused(wrong, right)
                self.refused(right, wrong)

    def test_both(self):
        for first, second in itertools.product(ALL_NOT_RIGHT, repeat=2):
            self.refused(first, second)

    def test_before_a_sum_above_one(self):
        for wrong in ((2, 2), (3, 2), (4, 6), (5, 0), (GREATEST_PART, 1), (GREATEST_PART, GREATEST_PART)):
            for right in ((1, 1), (2, 3), (999, 1000)):
                self.refused(wrong, right)
                self.refused(right, wrong)


class Greatest(Adding):
    def test_sums_of_eight_hundred_bits(self):
        one = (2 ** 398, GREATEST_PART)
        other = (2 ** 398 - 1, GREATEST_PART - 1)
        self.assertEqual((math.gcd(*one), math.gcd(*other)), (1, 1))
        over = one[0] * other[1] + other[0] * one[1]
        under = one[1] * other[1]
        self.assertEqual(math.gcd(over, under), 1)
        self.assertGreater(over.bit_length(), 790)
        self.assertEqual(under.bit_length(), 800)
        self.both_ways(one, other, [0, over, under])
        self.both_ways((1, GREATEST_PART), (1, GREATEST_PART - 1), [0, 2 * GREATEST_PART - 1, under])

    def test_great_sums_in_lowest_terms(self):
        divisor = 2 ** 379 - 1
        self.both_ways((1, 2 * divisor), (1, 3 * divisor), [0, 5, 6 * divisor])
        self.both_ways((1, 3 * divisor), (1, 6 * divisor), [0, 1, 2 * divisor])
        self.assertEqual(sum_of((1, 2 ** 399), (1, 2 ** 399)), [0, 1, 2 ** 398])
        self.both_ways((2 ** 398 - 1, 2 ** 399), (1, 2 ** 399), [0, 1, 2])

    def test_they_end_at_once(self):
        numbers = fibonacci(GREATEST_PART)
        with ending_at_once():
            for at in range(len(numbers) - 3):
                call = (numbers[at], numbers[at + 2], numbers[at + 1], numbers[at + 3])
                self.assertEqual(ask_numbers(desk.sum_of, *call), model_sum(*call))


class Calls(unittest.TestCase):
    def test_against_the_model(self):
        dice = random.Random(17)
        seen = {}
        for i in range(4000):
            most = dice.choice((5, 9, 30, 2 ** 60, GREATEST_PART))
            numbers = [dice.randint(0, most) for j in range(4)]
            if dice.random() < 0.7:
                numbers = [min(numbers[:2]), max(numbers[:2]), min(numbers[2:]), max(numbers[2:])]
            answer = ask_numbers(desk.sum_of, *numbers)
            self.assertEqual(answer, model_sum(*numbers), numbers)
            seen[answer[0]] = seen.get(answer[0], 0) + 1
        self.assertEqual(sorted(seen), [-9, -6, 0])
        self.assertGreater(min(seen.values()), 100, seen)

    def test_g3_lowest_terms(self):
        for first, second in itertools.product(RIGHT, repeat=2):
            answer = sum_of(first, second)
            if answer != [-9]:
                kind, over, under = answer
                self.assertEqual((kind, 0 <= over <= under, math.gcd(over, under)), (0, True, 1))

    def test_nothing_is_kept(self):
        calls = [(1, 2, 1, 3), (1, 2, 2, 3), (1, 2, 1, 2), (2, 4, 1, 2), (0, 0, 1, 1), (0, 1, 1, GREATEST_PART)]
        alone = [desk.sum_of(*call) for call in calls]
        for first, second in itertools.product(range(len(calls)), repeat=2):
            self.assertEqual([desk.sum_of(*calls[first]), desk.sum_of(*calls[second])], [alone[first], alone[second]])

    def test_answer_is_the_callers_own(self):
        desk.sum_of(1, 2, 1, 3).append(99)
        self.assertEqual(desk.sum_of(1, 2, 1, 3), [0, 5, 6])

    def test_nothing_is_printed(self):
        said = io.StringIO()
        with contextlib.redirect_stdout(said), contextlib.redirect_stderr(said):
            desk.sum_of(1, 2, 1, 3)
            desk.sum_of(1, 1, 1, 3)
        self.assertEqual(said.getvalue(), "")


if __name__ == "__main__":
    unittest.main()
