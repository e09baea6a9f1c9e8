"""Which of two fractions is more, and -6 for what is no right fraction."""

import contextlib
import io
import itertools
import random
import unittest

from chancehalldesk import desk
from tests.helper import (
    ALL_NOT_RIGHT, GREATEST_PART, NOT_RIGHT, RIGHT, ask_numbers, ending_at_once, fibonacci, model_more)


def more(first, second):
    return ask_numbers(desk.more, *first, *second)


class Comparing(unittest.TestCase):
    def rising(self, *fractions):
        """Each fraction is less than all behind it, and the same as itself."""
        for one, other in itertools.combinations(fractions, 2):
            self.assertEqual(more(one, other), [0, 0], (one, other))
            self.assertEqual(more(other, one), [0, 2], (one, other))
        for one in fractions:
            self.assertEqual(more(one, one), [0, 1], one)


class OrdinaryFractions(Comparing):
    def test_first_is_more(self):
        self.assertEqual(more((1, 2), (1, 3)), [0, 2])
        self.assertEqual(more((2, 3), (3, 5)), [0, 2])
        self.assertEqual(more((3, 4), (1, 4)), [0, 2])

    def test_both_are_the_same(self):
        self.assertEqual(more((1, 2), (1, 2)), [0, 1])
        self.assertEqual(more((13, 35), (13, 35)), [0, 1])

    def test_first_is_less(self):
        self.assertEqual(more((1, 3), (1, 2)), [0, 0])
        self.assertEqual(more((3, 5), (2, 3)), [0, 0])
        self.assertEqual(more((1, 4), (3, 4)), [0, 0])

    def test_greater_numbers_arent_more_by_themselves(self):
        self.rising((10, 101), (1, 10), (100, 999))
        self.rising((1, 1000), (2, 1001), (3, 4))

    def test_nothing_and_all(self):
        self.assertEqual(more((0, 1), (0, 1)), [0, 1])
        self.assertEqual(more((1, 1), (1, 1)), [0, 1])
        self.assertEqual(more((0, 1), (1, 1)), [0, 0])
        self.assertEqual(more((1, 1), (0, 1)), [0, 2])
        for one in [fraction for fraction in RIGHT if fraction not in ((0, 1), (1, 1))]:
            self.rising((0, 1), one, (1, 1))

    def test_all_small_fractions(self):
        for numbers in itertools.product(range(6), range(7), range(6), range(7)):
            self.assertEqual(ask_numbers(desk.more, *numbers), model_more(*numbers), numbers)

    def test_first_arguments_are_the_first_fraction(self):
        self.assertEqual(desk.more(over=1, under=2, other_over=1, other_under=3), [0, 2])
        self.assertEqual(desk.more(other_over=1, other_under=2, over=1, under=3), [0, 0])


class Neighbours(Comparing):
    """Fractions whose difference is one over the product of their unders."""

    def test_by_one_of_the_under(self):
        for under in (2, 3, 10, 1000, 2 ** 53, 2 ** 64, 2 ** 200, 2 ** 399, GREATEST_PART - 1):
            self.rising((under - 1, under), (under, under + 1))
            self.rising((1, under + 1), (1, under))

    def test_of_fibonacci(self):
        numbers = fibonacci(GREATEST_PART)
        for at in range(0, len(numbers) - 2):
            one, other = (numbers[at], numbers[at + 1]), (numbers[at + 1], numbers[at + 2])
            self.assertEqual(abs(one[0] * other[1] - other[0] * one[1]), 1)
            self.rising(*((one, other) if one[0] * other[1] < other[0] * one[1] else (other, one)))

    def test_between_neighbours(self):
        for bits in (100, 200, 300, 390):
            one, other = (2 ** bits - 1, 2 ** bits), (2 ** bits, 2 ** bits + 1)
            self.rising(one, (one[0] + other[0], one[1] + other[1]), other)


class NotRight(unittest.TestCase):
    def refused(self, first, second):
        self.assertEqual(more(first, second), [-6], (first, second))

    def test_first_by_itself(self):
        for way, pairs in NOT_RIGHT.items():
            for wrong, right in itertools.product(pairs, RIGHT):
                self.refused(wrong, right)

    def test_second_by_itself(self):
        for way, pairs in NOT_RIGHT.items():
            for wrong, right in itertools.product(pairs, RIGHT):
                self.refused(right, wrong)

    def test_both(self):
        for first, second in itertools.product(ALL_NOT_RIGHT, repeat=2):
            self.refused(first, second)


class Greatest(Comparing):
    def test_as_over(self):
        for under in (0, 1, 2, GREATEST_PART - 1):
            self.assertEqual(more((GREATEST_PART, under), (1, 2)), [-6])
            self.assertEqual(more((1, 2), (GREATEST_PART, under)), [-6])

    def test_as_under(self):
        self.rising((0, 1), (1, GREATEST_PART), (2, GREATEST_PART), (1, 2), (2 ** 399, GREATEST_PART),
                    (GREATEST_PART - 1, GREATEST_PART), (1, 1))
        self.assertEqual(more((0, GREATEST_PART), (1, 1)), [-6])

    def test_as_both(self):
        self.assertEqual(more((GREATEST_PART, GREATEST_PART), (1, 1)), [-6])
        self.assertEqual(more((1, 1), (GREATEST_PART, GREATEST_PART)), [-6])
        self.assertEqual(ask_numbers(desk.more, *[GREATEST_PART] * 4), [-6])

    def test_great_divisor_in_common(self):
        divisor = 2 ** 390 + 1
        with ending_at_once():
            for over, under in ((1, 2), (2, 3), (500, 1001), (1000, 1001), (1, 1)):
                self.assertEqual(more((over * divisor, under * divisor), (1, 1)), [-6])
                self.assertEqual(more((1, 1), (over * divisor, under * divisor)), [-6])

    def test_no_divisor_in_common(self):
        numbers = fibonacci(GREATEST_PART)
        self.assertGreater(numbers[-1], 2 ** 399)
        with ending_at_once():
            for i in range(200):
                self.rising((numbers[-3], numbers[-1]), (numbers[-2], numbers[-1]))
                self.rising((3 ** 251, 2 ** 399), (2 ** 399 - 1, 2 ** 399), (2 ** 399, 2 ** 399 + 1))


class Calls(unittest.TestCase):
    def test_against_the_model(self):
        dice = random.Random(13)
        seen = {}
        for i in range(4000):
            most = dice.choice((3, 5, 9, 2 ** 60, GREATEST_PART))
            numbers = [dice.randint(0, most) for j in range(4)]
            if dice.random() < 0.5:
                numbers = [min(numbers[:2]), max(numbers[:2]), min(numbers[2:]), max(numbers[2:])]
            answer = ask_numbers(desk.more, *numbers)
            self.assertEqual(answer, model_more(*numbers), numbers)
            seen[tuple(answer)] = seen.get(tuple(answer), 0) + 1
        self.assertEqual(sorted(seen), [(-6,), (0, 0), (0, 1), (0, 2)])
        self.assertGreater(min(seen.values()), 20, seen)

    def test_nothing_is_kept(self):
        calls = [(1, 2, 1, 3), (1, 3, 1, 2), (1, 2, 1, 2), (2, 4, 1, 2), (0, 0, 1, 1), (0, 1, 1, GREATEST_PART)]
        alone = [desk.more(*call) for call in calls]
        for first, second in itertools.product(range(len(calls)), repeat=2):
            self.assertEqual([desk.more(*calls[first]), desk.more(*calls[second])], [alone[first], alone[second]])

    def test_answer_is_the_callers_own(self):
        desk.more(1, 2, 1, 3).append(99)
        self.assertEqual(desk.more(1, 2, 1, 3), [0, 2])

    def test_nothing_is_printed(self):
        said = io.StringIO()
        with contextlib.redirect_stdout(said), contextlib.redirect_stderr(said):
            desk.more(1, 2, 1, 3)
            desk.more(0, 0, 1, 3)
        self.assertEqual(said.getvalue(), "")


if __name__ == "__main__":
    unittest.main()
