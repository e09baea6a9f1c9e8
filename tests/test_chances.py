"""Chances of orders: what they are, G1, G3 and G4 as far as they speak of orders."""

import itertools
import math
import unittest
from fractions import Fraction

from tests.helper import MOST_CENTS, ask, card_text, chance, model_chance, moneys, pool_line, told

FOUR = card_text()
FOUR_CENTS = [(0, 400), (1, 300), (2, 200), (3, 100)]
# Interests 1, 3, 5 and 6: runners 2 and 4 go with 1.
COUPLED = card_text(["race 6 couple 1 2 couple 1 4"])
SIX = card_text(["race 6"])
WIDEST = card_text(["race 24"])


class OrdinaryOrders(unittest.TestCase):
    def test_one_interest(self):
        self.assertEqual(ask(FOUR, FOUR_CENTS, [1]), [0, 2, 5])
        self.assertEqual(ask(FOUR, FOUR_CENTS, [2]), [0, 3, 10])
        self.assertEqual(ask(FOUR, FOUR_CENTS, [3]), [0, 1, 5])
        self.assertEqual(ask(FOUR, FOUR_CENTS, [4]), [0, 1, 10])

    def test_two_interests(self):
        self.assertEqual(ask(FOUR, FOUR_CENTS, [1, 2]), [0, 1, 5])
        self.assertEqual(ask(FOUR, FOUR_CENTS, [2, 1]), [0, 6, 35])

    def test_three_interests(self):
        self.assertEqual(ask(FOUR, FOUR_CENTS, [1, 2, 3]), [0, 2, 15])
        self.assertEqual(ask(FOUR, FOUR_CENTS, [4, 3, 2]), [0, 1, 105])

    def test_four_interests(self):
        self.assertEqual(ask(FOUR, FOUR_CENTS, [1, 2, 3, 4]), [0, 2, 15])
        self.assertEqual(ask(FOUR, FOUR_CENTS, [4, 3, 2, 1]), [0, 1, 105])

    def test_four_of_more(self):
        pairs = [(0, 5), (1, 7), (2, 11), (3, 13), (4, 17), (5, 19)]
        self.assertEqual(ask(SIX, pairs, [6, 2, 4, 1]),
                         told(Fraction(19, 72) * Fraction(7, 53) * Fraction(13, 46) * Fraction(5, 33)))

    def test_couples_are_one_interest_with_its_heads_number(self):
        pairs = [(0, 1), (1, 2), (2, 3), (3, 4)]
        self.assertEqual(ask(COUPLED, pairs, [1]), [0, 1, 10])
        self.assertEqual(ask(COUPLED, pairs, [3]), [0, 1, 5])
        self.assertEqual(ask(COUPLED, pairs, [6, 3]), [0, 2, 15])
        self.assertEqual(ask(COUPLED, pairs, [6, 5, 3]), [0, 2, 15])
        self.assertEqual(ask(COUPLED, pairs, [5, 1, 6, 3]), [0, 1, 35])

    def test_only_interest_of_a_race(self):
        self.assertEqual(ask(card_text(["race 2 couple 1 2"]), [(0, 9)], [1]), [0, 1, 1])

    def test_the_pools_own_race_counts(self):
        card = card_text(["race 2", "race 5 couple 1 3", "race 3"], [
            pool_line("trio", "order", "3", "3"), pool_line("second", race="2"), pool_line("third", race="3")])
        self.assertEqual(ask(card, [(2, 1), (3, 3)], [4], 1), [0, 1, 4])
        self.assertEqual(ask(card, [(0, 1), (2, 2)], [3, 1], 2), [0, 2, 3])

    def test_interest_without_cents(self):
        pairs = [(0, 6), (2, 4)]
        for row in ([2], [4], [2, 1], [1, 2], [1, 3, 2], [1, 2, 3], [3, 1, 4], [1, 3, 2, 4], [2, 4, 1, 3]):
            self.assertEqual(ask(FOUR, pairs, row), [0, 0, 1], row)
        self.assertEqual(ask(FOUR, pairs, [1, 3]), [0, 3, 5])

    def test_all_cents_on_one_interest(self):
        for cents in (1, 7, MOST_CENTS):
            self.assertEqual(ask(FOUR, [(1, cents)], [2]), [0, 1, 1])
            for row in ([1], [2, 1], [1, 2], [2, 3, 4], [2, 1, 3, 4]):
                self.assertEqual(ask(FOUR, [(1, cents)], row), [0, 0, 1], row)

    def test_last_interest_of_the_widest_race(self):
        pairs = [(number, number + 1) for number in range(24)]
        self.assertEqual(ask(WIDEST, pairs, [24]), [0, 2, 25])
        self.assertEqual(ask(WIDEST, pairs, [24, 1]), [0, 1, 3450])

    def test_answer_is_the_callers_own(self):
        first = ask(FOUR, FOUR_CENTS, [1])
        first.append(99)
        self.assertEqual(ask(FOUR, FOUR_CENTS, [1]), [0, 2, 5])


class PromisesOfOrders(unittest.TestCase):
    def test_g1_orders_of_a_length_add_up_to_one(self):
        for pairs in moneys():
            for length in (1, 2, 3, 4):
                chances = [chance(SIX, pairs, list(row)) for row in itertools.permutations(range(1, 7), length)]
                if len(pairs) >= length:
                    self.assertEqual(sum(chances), 1, (pairs, length))
                else:
                    self.assertEqual(set(chances), {0}, (pairs, length))

    def test_g1_with_couples(self):
        pairs = [(0, 3), (1, 1), (3, 8)]
        for length, total in ((1, 1), (2, 1), (3, 1), (4, 0)):
            rows = itertools.permutations([1, 3, 5, 6], length)
            self.assertEqual(sum(chance(COUPLED, pairs, list(row)) for row in rows), total)

    def test_each_is_what_the_money_says(self):
        for pairs in moneys():
            cents_of = dict.fromkeys(range(1, 7), 0)
            cents_of.update({number + 1: cents for number, cents in pairs})
            for row in ([1], [6, 2], [3, 1, 2], [5, 6, 4, 3]):
                self.assertEqual(ask(SIX, pairs, row), told(model_chance(cents_of, row)))

    def test_g3_lowest_terms(self):
        for pairs in moneys():
            for row in ([2], [4, 6], [1, 5, 3], [6, 4, 2, 1]):
                kind, over, under = ask(SIX, pairs, row)
                self.assertEqual(math.gcd(over, under), 1)
                self.assertEqual((kind, 0 <= over <= under, under > 0), (0, True, True))

    def test_g3_the_same_shares_are_told_the_same(self):
        for times in (1, 2, 3, 1000, MOST_CENTS // 1000):
            pairs = [(number, cents * times) for number, cents in FOUR_CENTS]
            self.assertEqual(ask(FOUR, pairs, [2, 1]), [0, 6, 35])

    def test_g4_more_money_is_likelier_first(self):
        for pairs in moneys():
            cents = dict(pairs)
            first = [chance(SIX, pairs, [interest]) for interest in range(1, 7)]
            for one, other in itertools.permutations(range(6), 2):
                self.assertEqual(first[one] > first[other], cents.get(one, 0) > cents.get(other, 0))

    def test_g4_by_one_cent_of_the_most(self):
        half = MOST_CENTS // 2
        self.assertGreater(chance(FOUR, [(0, half), (1, half + 1)], [2]), chance(FOUR, [(0, half), (1, half + 1)], [1]))
        self.assertEqual(ask(FOUR, [(0, half), (1, half + 1)], [2]), [0, half + 1, MOST_CENTS])


if __name__ == "__main__":
    unittest.main()
