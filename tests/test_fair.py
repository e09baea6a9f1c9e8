"""A fair pay for a unit; -6 for what is no right fraction, then -1 for no unit, then -7 for a chance of 0."""

import contextlib
import io
import itertools
import random
import unittest

from chancehalldesk import desk
from tests.helper import (
    ALL_NOT_RIGHT, GREATEST, GREATEST_PART, NOT_RIGHT, RIGHT, ask_numbers, ending_at_once, fibonacci, model_fair)

UNITS = (1, 2, 100, 10000, 2 ** 31, GREATEST)


def fair(over, under, unit):
    return ask_numbers(desk.fair, over, under, unit)


class OrdinaryPays(unittest.TestCase):
    def test_that_divide_evenly(self):
        self.assertEqual(fair(1, 2, 100), [0, 200])
        self.assertEqual(fair(2, 5, 100), [0, 250])
        self.assertEqual(fair(4, 5, 8), [0, 10])
        self.assertEqual(fair(1, 7, 1), [0, 7])

    def test_that_are_rounded_down(self):
        self.assertEqual(fair(2, 3, 1), [0, 1])
        self.assertEqual(fair(2, 3, 100), [0, 150])
        self.assertEqual(fair(2, 3, 101), [0, 151])
        self.assertEqual(fair(6, 35, 100), [0, 583])
        self.assertEqual(fair(3, 10, 100), [0, 333])
        self.assertEqual(fair(3, 5, 100), [0, 166])
        self.assertEqual(fair(999, 1000, 998), [0, 998])
        self.assertEqual(fair(999, 1000, 999), [0, 1000])

    def test_of_a_chance_of_one(self):
        for unit in UNITS:
            self.assertEqual(fair(1, 1, unit), [0, unit])

    def test_least_and_greatest_unit(self):
        self.assertEqual(fair(3, 7, 1), [0, 2])
        self.assertEqual(fair(1, 3, GREATEST), [0, 12884901885])
        self.assertEqual(fair(2, 3, GREATEST), [0, 6442450942])
        self.assertEqual(fair(3, 4, GREATEST), [0, 5726623060])

    def test_all_small_fractions(self):
        for numbers in itertools.product(range(9), range(10), range(12)):
            self.assertEqual(fair(*numbers), model_fair(*numbers), numbers)

    def test_arguments_by_their_names(self):
        self.assertEqual(desk.fair(unit=100, under=5, over=2), [0, 250])


class Refusals(unittest.TestCase):
    def test_fraction_not_right(self):
        for way, pairs in NOT_RIGHT.items():
            for (over, under), unit in itertools.product(pairs, UNITS):
                self.assertEqual(fair(over, under, unit), [-6], (way, over, under, unit))

    def test_fraction_not_right_and_no_unit(self):
        for over, under in ALL_NOT_RIGHT:
            self.assertEqual(fair(over, under, 0), [-6], (over, under))

    def test_fraction_not_right_and_no_chance(self):
        for under, unit in itertools.product((0, 2, 3, 2 ** 399, GREATEST_PART), (0,) + UNITS):
            self.assertEqual(fair(0, under, unit), [-6], (under, unit))

    def test_no_unit(self):
        for over, under in RIGHT:
            self.assertEqual(fair(over, under, 0), [-1], (over, under))

    def test_no_unit_and_no_chance(self):
        self.assertEqual(fair(0, 1, 0), [-1])

    def test_no_chance(self):
        for unit in UNITS:
            self.assertEqual(fair(0, 1, unit), [-7])


class Greatest(unittest.TestCase):
    def test_over_one(self):
        for under in (2 ** 399, 2 ** 399 + 1, GREATEST_PART - 1, GREATEST_PART):
            for unit in UNITS:
                self.assertEqual(fair(1, under, unit), [0, unit * under])

    def test_great_overs(self):
        self.assertEqual(fair(GREATEST_PART - 1, GREATEST_PART, 1), [0, 1])
        self.assertEqual(fair(GREATEST_PART - 1, GREATEST_PART, GREATEST), [0, GREATEST])
        self.assertEqual(fair(2 ** 399, GREATEST_PART, 1), [0, 1])
        self.assertEqual(fair(2 ** 399, GREATEST_PART, GREATEST), [0, 2 * GREATEST - 1])
        self.assertEqual(fair(2 ** 200, GREATEST_PART, GREATEST), [0, GREATEST * 2 ** 200 - 1])
        self.assertEqual(fair(2 ** 368, GREATEST_PART, GREATEST), [0, GREATEST * 2 ** 32 - 1])

    def test_pays_that_are_just_even_with_great_numbers(self):
        for over in (3, 5, 17, 257):
            self.assertEqual(GREATEST % over, 0)
            even = GREATEST // over * 2 ** 399
            self.assertEqual(fair(over, 2 ** 399, GREATEST), [0, even])
            self.assertEqual(fair(over, 2 ** 399, GREATEST - 1), [0, even - 2 ** 399 // over - 1])

    def test_they_end_at_once(self):
        numbers = fibonacci(GREATEST_PART)
        with ending_at_once():
            for at, unit in itertools.product(range(len(numbers) - 1), UNITS):
                call = (numbers[at], numbers[at + 1], unit)
                self.assertEqual(fair(*call), [0, unit * numbers[at + 1] // numbers[at]])


class Calls(unittest.TestCase):
    def test_against_the_model(self):
        dice = random.Random(19)
        seen = {}
        for i in range(4000):
            most = dice.choice((1, 5, 30, 2 ** 60, GREATEST_PART))
            numbers = [dice.randint(0, most) for j in range(2)]
            if dice.random() < 0.7:
                numbers = sorted(numbers)
            call = (*numbers, dice.choice((0, 1, 1, 7, 100, GREATEST, dice.randint(0, GREATEST))))
            answer = fair(*call)
            self.assertEqual(answer, model_fair(*call), call)
            seen[answer[0]] = seen.get(answer[0], 0) + 1
        self.assertEqual(sorted(seen), [-7, -6, -1, 0])
        self.assertGreater(min(seen.values()), 100, seen)

    def test_nothing_is_kept(self):
        calls = [(1, 2, 100), (2, 3, 100), (0, 1, 100), (0, 1, 0), (2, 4, 100), (1, 2, 0), (1, GREATEST_PART, GREATEST)]
        alone = [desk.fair(*call) for call in calls]
        for first, second in itertools.product(range(len(calls)), repeat=2):
            self.assertEqual([desk.fair(*calls[first]), desk.fair(*calls[second])], [alone[first], alone[second]])

    def test_answer_is_the_callers_own(self):
        desk.fair(1, 2, 100).append(99)
        self.assertEqual(desk.fair(1, 2, 100), [0, 200])

    def test_nothing_is_printed(self):
        said = io.StringIO()
        with contextlib.redirect_stdout(said), contextlib.redirect_stderr(said):
            desk.fair(1, 2, 100)
            desk.fair(0, 1, 100)
        self.assertEqual(said.getvalue(), "")


if __name__ == "__main__":
    unittest.main()
