"""Chances of sets: what any_of answers, its refusals, and G1, G2 and G3 as far as they speak of sets."""

import contextlib
import io
import itertools
import math
import unittest
from fractions import Fraction

from chancehalldesk import desk
from tests.helper import (
    GREATEST, GREATEST_CENTS, MOST_CENTS, NO_POOL_HAS_THIS, RACES, all_pools, as_bytes, ask, ask_any, card_text, chance,
    model_any, model_set_chance, moneys, pool_line, shuffled_calls, told)

FOUR = card_text()
FOUR_CENTS = [(0, 400), (1, 300), (2, 200), (3, 100)]
# Interests 1, 3, 5 and 6: runners 2 and 4 go with 1.
COUPLED = card_text(["race 6 couple 1 2 couple 1 4"])
COUPLED_CENTS = [(0, 1), (1, 2), (2, 3), (3, 4)]
SIX = card_text(["race 6"])
WIDEST = card_text(["race 24"])


def sets(interests, size):
    return [list(row) for row in itertools.combinations(interests, size)]


class OrdinarySets(unittest.TestCase):
    def test_two_interests(self):
        self.assertEqual(ask_any(FOUR, FOUR_CENTS, [1, 2]), [0, 13, 35])
        self.assertEqual(ask_any(FOUR, FOUR_CENTS, [3, 4]), [0, 17, 360])
        self.assertEqual(ask_any(FOUR, [(0, 1), (1, 1), (2, 1), (3, 1)], [2, 3]), [0, 1, 6])

    def test_three_interests(self):
        self.assertEqual(ask_any(FOUR, FOUR_CENTS, [1, 2, 3]), [0, 463, 840])
        self.assertEqual(ask_any(FOUR, [(0, 1), (1, 1), (2, 1), (3, 1)], [1, 2, 4]), [0, 1, 4])

    def test_couples_are_one_interest_with_its_heads_number(self):
        self.assertEqual(ask_any(COUPLED, COUPLED_CENTS, [1, 3]), told(Fraction(1, 45) + Fraction(1, 40)))
        self.assertEqual(ask_any(COUPLED, COUPLED_CENTS, [5, 6]), told(Fraction(6, 35) + Fraction(1, 5)))
        self.assertEqual(ask_any(COUPLED, COUPLED_CENTS, [3, 5, 6]), [0, 463, 840])

    def test_interest_without_cents(self):
        pairs = [(0, 6), (2, 4), (3, 5)]
        for row in ([1, 2], [2, 3], [2, 4], [1, 2, 3], [1, 2, 4], [2, 3, 4]):
            self.assertEqual(ask_any(FOUR, pairs, row), [0, 0, 1], row)
        self.assertEqual(ask_any(COUPLED, [(0, 6), (1, 1), (3, 4)], [1, 5, 6]), [0, 0, 1])

    def test_all_cents_on_one_interest(self):
        for number, cents in itertools.product(range(4), (1, 7, MOST_CENTS)):
            for row in sets(range(1, 5), 2) + sets(range(1, 5), 3):
                self.assertEqual(ask_any(FOUR, [(number, cents)], row), [0, 0, 1], row)

    def test_just_two_interests_with_cents(self):
        for cents in ((1, 1), (1, 999), (MOST_CENTS - 1, 1), (MOST_CENTS // 2, MOST_CENTS // 2 + 1)):
            pairs = [(1, cents[0]), (3, cents[1])]
            for row in sets(range(1, 5), 2):
                self.assertEqual(ask_any(FOUR, pairs, row), [0, 1, 1] if row == [2, 4] else [0, 0, 1], row)
            for row in sets(range(1, 5), 3):
                self.assertEqual(ask_any(FOUR, pairs, row), [0, 0, 1], row)

    def test_just_three_interests_with_cents(self):
        for cents in ((1, 1, 1), (1, 20, 300), (MOST_CENTS - 2, 1, 1), (MOST_CENTS // 3,) * 3):
            pairs = list(zip((0, 1, 3), cents))
            for row in sets(range(1, 5), 3):
                self.assertEqual(ask_any(FOUR, pairs, row), [0, 1, 1] if row == [1, 2, 4] else [0, 0, 1], row)

    def test_race_of_just_two_or_three_interests(self):
        self.assertEqual(ask_any(card_text(["race 2"]), [(0, 3), (1, 8)], [1, 2]), [0, 1, 1])
        self.assertEqual(ask_any(card_text(["race 5 couple 1 2 couple 4 5"]), [(0, 3), (1, 8), (2, 4)], [1, 3, 4]),
                         [0, 1, 1])

    def test_the_pools_own_race_counts(self):
        card = card_text(["race 2", "race 5 couple 1 3", "race 3"], [
            pool_line("trio", "order", "3", "3"), pool_line("second", race="2"), pool_line("third", race="3")])
        self.assertEqual(ask_any(card, [(2, 1), (3, 3)], [4, 5], 1), [0, 1, 1])
        self.assertEqual(ask_any(card, [(0, 1), (1, 1), (2, 2)], [1, 2], 2), [0, 1, 6])

    def test_last_interests_of_the_widest_race(self):
        pairs = [(number, 1) for number in range(24)]
        self.assertEqual(ask_any(WIDEST, pairs, [23, 24]), [0, 1, 276])
        self.assertEqual(ask_any(WIDEST, pairs, [22, 23, 24]), [0, 1, 2024])

    def test_answer_is_the_callers_own(self):
        first = ask_any(FOUR, FOUR_CENTS, [1, 2])
        first.append(99)
        self.assertEqual(ask_any(FOUR, FOUR_CENTS, [1, 2]), [0, 13, 35])


class GreatCents(unittest.TestCase):
    def check(self, card, interests, cents):
        self.assertEqual(sum(cents), MOST_CENTS)
        pairs = [(number, amount) for number, amount in enumerate(cents) if amount > 0]
        cents_of = dict(zip(interests, cents))
        for row in sets(interests, 2) + sets(interests, 3):
            self.assertEqual(ask_any(card, pairs, row), told(model_set_chance(cents_of, row)), (cents, row))

    def test_over_three_interests(self):
        third = MOST_CENTS // 3
        for cents in ((third, third, third, 0), (0, third - 1, third, third + 1), (MOST_CENTS - 2, 1, 0, 1),
                      (2 ** 40 - 87, 0, 2 ** 41 + 9, MOST_CENTS - 2 ** 41 - 2 ** 40 + 78)):
            self.check(FOUR, [1, 2, 3, 4], cents)

    def test_over_more(self):
        parts = [2 ** 44 + 7, 2 ** 45 - 21, 2 ** 46 + 15]
        self.check(COUPLED, [1, 3, 5, 6], parts + [MOST_CENTS - sum(parts)])
        parts = [2 ** 45 + step * step for step in range(5)]
        self.check(SIX, [1, 2, 3, 4, 5, 6], parts + [MOST_CENTS - sum(parts)])

    def test_over_the_widest_race(self):
        parts = [2 ** 43 + 3 ** step for step in range(23)]
        self.check(WIDEST, list(range(1, 25)), parts + [MOST_CENTS - sum(parts)])

    def test_over_and_under_stay_below_what_a_fraction_may_be(self):
        parts = [2 ** 46 + 15, 2 ** 46 - 21, 2 ** 46 + 7]
        pairs = list(enumerate(parts + [MOST_CENTS - sum(parts)]))
        answer = ask_any(FOUR, pairs, [1, 2, 3])
        self.assertGreater(answer[2], 2 ** 300)
        self.assertLess(answer[2], 2 ** 400)


class PromisesOfSets(unittest.TestCase):
    def test_g1_sets_of_a_size_add_up_to_one(self):
        for pairs, size in itertools.product(moneys(), (2, 3)):
            chances = [chance(SIX, pairs, row, desk.any_of) for row in sets(range(1, 7), size)]
            if len(pairs) >= size:
                self.assertEqual(sum(chances), 1, (pairs, size))
            else:
                self.assertEqual(set(chances), {0}, (pairs, size))

    def test_g1_with_couples(self):
        for pairs, totals in (([(0, 3), (1, 1), (3, 8)], (1, 1)), ([(0, 3), (3, 8)], (1, 0)), ([(2, 5)], (0, 0))):
            for size, total in zip((2, 3), totals):
                chances = [chance(COUPLED, pairs, row, desk.any_of) for row in sets([1, 3, 5, 6], size)]
                self.assertEqual(sum(chances), total)

    def test_g2_the_sum_of_what_order_answers(self):
        for pairs, size in itertools.product(moneys(), (2, 3)):
            for row in sets(range(1, 7), size):
                orders = [chance(SIX, pairs, list(placed)) for placed in itertools.permutations(row)]
                self.assertEqual(ask_any(SIX, pairs, row), told(sum(orders)), (pairs, row))

    def test_g2_with_couples(self):
        for row in sets([1, 3, 5, 6], 2) + sets([1, 3, 5, 6], 3):
            orders = [chance(COUPLED, COUPLED_CENTS, list(placed)) for placed in itertools.permutations(row)]
            self.assertEqual(ask_any(COUPLED, COUPLED_CENTS, row), told(sum(orders)), row)

    def test_g3_lowest_terms(self):
        for pairs in moneys():
            for row in ([1, 2], [4, 6], [1, 3, 5], [4, 5, 6]):
                kind, over, under = ask_any(SIX, pairs, row)
                self.assertEqual(math.gcd(over, under), 1)
                self.assertEqual((kind, 0 <= over <= under, under > 0), (0, True, True))

    def test_g3_the_same_shares_are_told_the_same(self):
        for times in (1, 2, 3, 1000, MOST_CENTS // 1000):
            pairs = [(number, cents * times) for number, cents in FOUR_CENTS]
            self.assertEqual(ask_any(FOUR, pairs, [1, 2, 3]), [0, 463, 840])


class RowsOfSets(unittest.TestCase):
    CARD = card_text(["race 9 couple 2 4 couple 3 5", "race 12"], [pool_line(), pool_line("b", race="2")])
    HEADS = [1, 2, 3, 6, 7, 8, 9]
    PAIRS = [(number, 1) for number in range(7)]

    def refused(self, row):
        self.assertEqual(ask_any(self.CARD, self.PAIRS, row), [-1], row)
        self.assertEqual(ask_any(self.CARD, [], row), [-1], row)

    def test_how_many_numbers(self):
        self.refused([])
        for head in self.HEADS:
            self.refused([head])
        for size in (2, 3):
            self.assertEqual(ask_any(self.CARD, self.PAIRS, self.HEADS[:size]), [0, 1, math.comb(7, size)])
            self.assertEqual(ask_any(self.CARD, self.PAIRS, self.HEADS[-size:]), [0, 1, math.comb(7, size)])
        for size in (4, 5, 6, 7):
            self.refused(self.HEADS[:size])
        self.refused([1] * 100)
        self.refused(list(range(1, 101)))
        self.refused([1, 2, 3, 6] * 25)

    def test_a_number_twice(self):
        for row in ([1, 1], [9, 9], [1, 1, 2], [1, 2, 2], [1, 2, 1], [2, 2, 1], [2, 1, 1], [3, 3, 3]):
            self.refused(row)

    def test_rows_that_fall(self):
        for row in ([2, 1], [9, 1], [9, 8], [3, 2, 1], [9, 6, 2]):
            self.refused(row)

    def test_different_interests_that_dont_rise(self):
        for row in sets(self.HEADS, 3):
            for placed in itertools.permutations(row):
                if list(placed) != row:
                    self.refused(list(placed))

    def test_rows_with_gaps(self):
        for row in ([1, 9], [2, 7], [1, 3, 8], [2, 6, 9]):
            self.assertEqual(ask_any(self.CARD, self.PAIRS, row), [0, 1, math.comb(7, len(row))])

    def test_numbers_that_are_no_interests(self):
        for number in (0, 4, 5, 10, 11, 12, 13, 24, 25, 2 ** 31, GREATEST):
            for row in ([number], [number, 1], [1, number], [1, 2, number], [1, number, 9], [number, 6, 9]):
                self.refused(row)
                self.refused(sorted(row))
            self.refused([number, number])
        self.refused([0, 1])
        self.refused([0, 1, 2])

    def test_interests_of_the_pools_own_race(self):
        self.assertEqual(ask_any(self.CARD, self.PAIRS, [4, 5], 1), [0, 1, 21])
        self.assertEqual(ask_any(self.CARD, self.PAIRS, [4, 12], 1), [0, 0, 1])
        self.assertEqual(ask_any(self.CARD, self.PAIRS, [4, 13], 1), [-1])

    def test_more_numbers_than_interests(self):
        card = card_text(["race 3 couple 1 3"])
        self.assertEqual(ask_any(card, [(0, 1), (1, 1)], [1, 2]), [0, 1, 1])
        self.assertEqual(ask_any(card, [(0, 1), (1, 1)], [1, 2, 3]), [-1])
        self.assertEqual(ask_any(card_text(["race 2 couple 1 2"]), [(0, 1)], [1, 2]), [-1])


class PoolsAndMoney(unittest.TestCase):
    def each_pool(self):
        for (kind, k, race), combinations in all_pools():
            yield kind, k, card_text(RACES, [pool_line(kind=kind, k=k, race=race)]), combinations

    def test_pools_not_of_place_one(self):
        for kind, k, card, combinations in self.each_pool():
            right = [[(0, 1)], [(combinations - 1, MOST_CENTS)], []]
            wrong = [[(combinations, 1)], [(GREATEST, 1)], [(0, 0)], [(0, 1), (0, 1)], [(0, MOST_CENTS + 1)],
                     [(0, GREATEST_CENTS)]]
            for pairs in wrong:
                self.assertEqual(ask_any(card, pairs, [1, 2]), [-5], (card, pairs))
            if (kind, k) != ("place", 1):
                for pairs, row in itertools.product(right, ([1, 2], [1, 2, 3], [1])):
                    self.assertEqual(ask_any(card, pairs, row), [-1], (card, pairs))

    def test_money_of_place_one(self):
        for pairs in ([(4, 1)], [(0, 1), (4, 1)], [(GREATEST, 1)], [(1, 1), (0, 1)], [(0, 1), (0, 1)], [(0, 0)],
                      [(0, 1), (1, 0)], [(0, MOST_CENTS), (1, 1)], [(0, GREATEST_CENTS), (1, GREATEST_CENTS)]):
            self.assertEqual(ask_any(FOUR, pairs, [1, 2]), [-5], pairs)
        self.assertEqual(ask_any(FOUR, [(0, 1), (3, MOST_CENTS - 1)], [1, 4]), [0, 1, 1])

    def test_no_such_pool(self):
        for count in (0, 1, 2, 64):
            card = card_text(pools=[pool_line(f"p{i}") for i in range(count)])
            for pool in (count, count + 1, GREATEST):
                self.assertEqual(ask_any(card, [(0, 1), (1, 1)], [1, 2], pool), [-4])
            for pool in range(count):
                self.assertEqual(ask_any(card, [(0, 1), (1, 1)], [1, 2], pool), [0, 1, 1])

    def test_how_many_pairs(self):
        card = as_bytes(card_text(["race 24"] * 6, [pool_line(kind="legs", k="6")]))
        money = [1] * (2 * 262145)
        money[::2] = range(262145)
        self.assertEqual(desk.any_of(0, card, money[:-2], [1, 2]), [-1])
        self.assertEqual(desk.any_of(0, card, money, [1, 2]), [-5])


class FirstRefusal(unittest.TestCase):
    """Inputs with several faults at once: the one that the document names first is answered."""

    RIGHT = card_text(["race 4", "race 4"], [pool_line(), pool_line("b", "order", "2")])
    NO_MONEY = []
    MONEY = [(0, 1), (1, 1), (3, 2)]
    WRONG_MONEY = [(0, 1), (12, 1)]

    def test_none(self):
        self.assertEqual(ask_any(self.RIGHT, self.MONEY, [1, 2]), [0, 1, 6])

    def test_by_itself(self):
        self.assertEqual(ask_any(self.RIGHT + " " * 65537, self.MONEY, [1, 2]), [-2])
        self.assertEqual(ask_any(self.RIGHT + " ", self.MONEY, [1, 2]), [-8])
        self.assertEqual(ask_any(self.RIGHT, self.MONEY, [1, 2], 2), [-4])
        self.assertEqual(ask_any(self.RIGHT, self.WRONG_MONEY, [1, 2]), [-5])
        self.assertEqual(ask_any(self.RIGHT, self.MONEY, [1, 2], 1), [-1])
        self.assertEqual(ask_any(self.RIGHT, self.MONEY, [2, 1]), [-1])
        self.assertEqual(ask_any(self.RIGHT, self.NO_MONEY, [1, 2]), [-3])

    def test_longest_card(self):
        for length, refusal in ((65535, -8), (65536, -8), (65537, -2), (66000, -2)):
            self.assertEqual(ask_any([97] * length, [], []), [refusal])
            self.assertEqual(ask_any((self.RIGHT + "\n" * length)[:length], self.MONEY, [1, 2]), [refusal])

    def test_several_at_once(self):
        cards = ((self.RIGHT + "\n" * 65537, -2), ("day d\n", -8), (self.RIGHT, None))
        pools = ((NO_POOL_HAS_THIS, -4), (1, None), (0, None))
        moneys_handed = ((self.WRONG_MONEY, -5), (self.NO_MONEY, None), (self.MONEY, None))
        rows = (([4, 5], -1), ([], -1), ([1], -1), ([2, 1], -1), ([1, 2], None))
        for choice in itertools.product(cards, pools, moneys_handed, rows):
            card, pool, money, row = [part[0] for part in choice]
            in_order = [part[1] for part in choice[:3]] + [-1 if pool == 1 else choice[3][1]]
            in_order = in_order + [-3 if money == [] else None]
            expected = [[refusal] for refusal in in_order if refusal is not None] + [[0, 1, 6]]
            self.assertEqual(ask_any(card, money, row, pool), expected[0], (pool, money, row))

    def test_nothing_is_kept(self):
        calls = [(self.RIGHT, self.MONEY, [1, 2], 0), (self.RIGHT + " ", self.MONEY, [1, 2], 0),
                 (self.RIGHT, [], [1, 2], 0), (card_text(["race 5"]), [(1, 1), (2, 3)], [2, 3], 0),
                 (self.RIGHT, self.WRONG_MONEY, [1, 2], 0), (self.RIGHT, self.MONEY, [1, 2, 4], 0)]
        asked = list(itertools.product((ask, ask_any), calls))
        alone = [asking(*call) for asking, call in asked]
        for first, second in itertools.product(range(len(asked)), repeat=2):
            answers = [asking(*call) for asking, call in (asked[first], asked[second])]
            self.assertEqual(answers, [alone[first], alone[second]])

    def test_nothing_is_printed(self):
        said = io.StringIO()
        with contextlib.redirect_stdout(said), contextlib.redirect_stderr(said):
            ask_any(self.RIGHT, self.MONEY, [1, 2])
            ask_any("", self.MONEY, [1, 2])
        self.assertEqual(said.getvalue(), "")


class AgainstTheModel(unittest.TestCase):
    def test_shuffled_calls(self):
        seen = {}
        for text, pairs, row, pool in shuffled_calls(12, 4000):
            # Rows that rise would be few if they were left to the dice.
            for placed in (row, sorted(row)):
                answer = ask_any(text, pairs, placed, pool)
                self.assertEqual(answer, model_any(text, pairs, placed, pool), (text, pairs, placed, pool))
                seen[answer[0]] = seen.get(answer[0], 0) + 1
        self.assertEqual(sorted(seen), [-8, -5, -4, -3, -1, 0])
        self.assertGreater(min(seen.values()), 20, seen)


if __name__ == "__main__":
    unittest.main()
