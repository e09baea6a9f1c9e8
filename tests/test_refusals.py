"""Refusals of order: money and rows that aren't right, pools that aren't there, and which refusal comes first."""

import contextlib
import io
import itertools
import math
import unittest

from chancehalldesk import desk
from tests.helper import (
    GREATEST, GREATEST_CENTS, MOST_CENTS, NO_POOL_HAS_THIS, RACES, all_pools, as_bytes, ask, card_text, model_order,
    pool_line, shuffled_calls)


class Pools(unittest.TestCase):
    def test_no_such_pool(self):
        for count in (0, 1, 2, 64):
            card = card_text(pools=[pool_line(f"p{i}") for i in range(count)])
            for pool in (count, count + 1, GREATEST):
                self.assertEqual(ask(card, [(0, 1)], [1], pool), [-4])
            for pool in range(count):
                self.assertEqual(ask(card, [(0, 1)], [1], pool), [0, 1, 1])

    def test_pool_not_of_place_one(self):
        for kind, k in (("place", 2), ("place", 3), ("place", 4), ("order", 2), ("order", 3), ("order", 4), ("any", 2),
                        ("any", 3), ("legs", 2), ("legs", 3)):
            card = card_text(["race 4"] * 3, [pool_line(), pool_line("b", kind, k)])
            self.assertEqual(ask(card, [(0, 1)], [1], 1), [-1])
            self.assertEqual(ask(card, [], [1], 1), [-1])
            self.assertEqual(ask(card, [(0, 1)], [1], 0), [0, 1, 1])


class Money(unittest.TestCase):
    def each_pool(self):
        for (kind, k, race), combinations in all_pools():
            card = card_text(RACES, [pool_line(kind=kind, k=k, race=race)])
            right = 0 if (kind, k) == ("place", 1) else -1
            yield card, combinations, right

    def refused(self, card, pairs):
        self.assertEqual(ask(card, pairs, [1]), [-5], (card, pairs))

    def test_number_at_or_above_how_many_there_are(self):
        for card, combinations, right in self.each_pool():
            self.assertEqual(ask(card, [(combinations - 1, 1)], [1])[0], right)
            for number in (combinations, combinations + 1, GREATEST):
                self.refused(card, [(number, 1)])
                self.refused(card, [(0, 1), (number, 1)])

    def test_numbers_that_dont_rise(self):
        for card, combinations, right in self.each_pool():
            self.refused(card, [(0, 1), (0, 1)])
            last = combinations - 1
            if last > 0:
                self.assertEqual(ask(card, [(0, 1), (last, 1)], [1])[0], right)
                self.refused(card, [(last, 1), (0, 1)])
                self.refused(card, [(0, 1), (last, 1), (last, 1)])
            if last > 1:
                self.assertEqual(ask(card, [(0, 1), (1, 1), (last, 1)], [1])[0], right)
                self.refused(card, [(0, 1), (last, 1), (1, 1)])
                self.refused(card, [(1, 1), (0, 1), (last, 1)])

    def test_no_cents(self):
        for card, combinations, right in self.each_pool():
            self.refused(card, [(0, 0)])
            self.refused(card, [(combinations - 1, 0)])
            if combinations > 1:
                self.refused(card, [(0, 0), (1, 1)])
                self.refused(card, [(0, 1), (1, 0)])

    def test_all_cents_together(self):
        for card, combinations, right in self.each_pool():
            self.assertEqual(ask(card, [(0, MOST_CENTS)], [1])[0], right)
            for cents in (MOST_CENTS + 1, MOST_CENTS + 2, 2 ** 63, GREATEST_CENTS):
                self.refused(card, [(0, cents)])
            if combinations > 1:
                last = combinations - 1
                self.assertEqual(ask(card, [(0, MOST_CENTS - 1), (last, 1)], [1])[0], right)
                self.refused(card, [(0, MOST_CENTS), (last, 1)])
                self.refused(card, [(0, 1), (last, MOST_CENTS)])
                self.refused(card, [(0, GREATEST_CENTS), (last, GREATEST_CENTS)])

    def test_no_pair_at_all(self):
        for card, combinations, right in self.each_pool():
            self.assertEqual(ask(card, [], [1]), [-3] if right == 0 else [-1])

    def test_every_combination_named(self):
        for card, combinations, right in self.each_pool():
            pairs = [(number, number + 1) for number in range(min(combinations, 8000))]
            self.assertEqual(ask(card, pairs, [1])[0], right)
            self.refused(card, pairs[:-1] + [(combinations, 1)])

    def test_largest_pools(self):
        for kind, k, combinations in (("legs", 6, 24 ** 6), ("order", 4, math.perm(24, 4)), ("any", 3, 2024)):
            card = card_text(["race 24"] * 6, [pool_line(kind=kind, k=k)])
            self.assertEqual(ask(card, [(combinations - 1, 1)], [1]), [-1])
            self.refused(card, [(combinations, 1)])

    def test_how_many_pairs(self):
        card = as_bytes(card_text(["race 24"] * 6, [pool_line(kind="legs", k="6")]))
        money = [1] * (2 * 262145)
        money[::2] = range(262145)
        self.assertEqual(desk.order(0, card, money[:-2], [1]), [-1])
        self.assertEqual(desk.order(0, card, money, [1]), [-5])


class Rows(unittest.TestCase):
    CARD = card_text(["race 9 couple 2 4 couple 3 5", "race 12"], [pool_line(), pool_line("b", race="2")])
    PAIRS = [(number, 1) for number in range(7)]

    def refused(self, row):
        self.assertEqual(ask(self.CARD, self.PAIRS, row), [-1], row)
        self.assertEqual(ask(self.CARD, [], row), [-1], row)

    def test_how_many_numbers(self):
        heads = [1, 2, 3, 6, 7, 8, 9]
        self.refused([])
        for length in (1, 2, 3, 4):
            self.assertEqual(ask(self.CARD, self.PAIRS, heads[:length]), [0, 1, math.perm(7, length)])
        for length in (5, 6, 7):
            self.refused(heads[:length])
        self.refused([1] * 100)
        self.refused(list(range(1, 101)))
        self.refused([1, 2, 3, 6] * 25)

    def test_a_number_twice(self):
        for row in ([1, 1], [1, 2, 1], [1, 2, 2], [2, 2, 1], [1, 2, 3, 1], [1, 2, 3, 3], [1, 2, 2, 3], [1, 1, 2, 3],
                    [9, 9, 9, 9]):
            self.refused(row)

    def test_numbers_that_are_no_interests(self):
        for number in (0, 4, 5, 10, 11, 12, 13, 24, 25, 2 ** 31, GREATEST):
            for row in ([number], [number, 1], [1, number], [1, 2, number], [1, 2, 3, number], [number, 1, 2, 3]):
                self.refused(row)

    def test_interests_of_the_pools_own_race(self):
        self.assertEqual(ask(self.CARD, self.PAIRS, [4], 1), [0, 1, 7])
        self.assertEqual(ask(self.CARD, self.PAIRS, [12], 1), [0, 0, 1])
        self.assertEqual(ask(self.CARD, self.PAIRS, [13], 1), [-1])

    def test_a_row_needs_no_rising(self):
        self.assertEqual(ask(self.CARD, self.PAIRS, [9, 1, 7, 2]), [0, 1, 840])

    def test_more_numbers_than_interests(self):
        card = card_text(["race 3 couple 1 3"])
        self.assertEqual(ask(card, [(0, 1), (1, 1)], [2, 1]), [0, 1, 2])
        self.assertEqual(ask(card, [(0, 1), (1, 1)], [2, 1, 3]), [-1])


class FirstRefusal(unittest.TestCase):
    """Inputs with several faults at once: the one that the document names first is answered."""

    RIGHT = card_text(["race 4", "race 4"], [pool_line(), pool_line("b", "order", "2")])
    NO_MONEY = []
    MONEY = [(0, 1), (3, 2)]
    WRONG_MONEY = [(0, 1), (12, 1)]

    def test_none(self):
        self.assertEqual(ask(self.RIGHT, self.MONEY, [4]), [0, 2, 3])

    def test_by_itself(self):
        self.assertEqual(ask(self.RIGHT + " " * 65537, self.MONEY, [4]), [-2])
        self.assertEqual(ask(self.RIGHT + " ", self.MONEY, [4]), [-8])
        self.assertEqual(ask(self.RIGHT, self.MONEY, [4], 2), [-4])
        self.assertEqual(ask(self.RIGHT, self.WRONG_MONEY, [4]), [-5])
        self.assertEqual(ask(self.RIGHT, self.MONEY, [4], 1), [-1])
        self.assertEqual(ask(self.RIGHT, self.MONEY, [5]), [-1])
        self.assertEqual(ask(self.RIGHT, self.NO_MONEY, [4]), [-3])

    def test_several_at_once(self):
        too_long = self.RIGHT + "\n" * 65537
        cards = ((too_long, -2), ("day d\n", -8), (self.RIGHT, None))
        pools = ((NO_POOL_HAS_THIS, -4), (1, None), (0, None))
        moneys = ((self.WRONG_MONEY, -5), (self.NO_MONEY, None), (self.MONEY, None))
        rows = (([5], -1), ([], -1), ([1, 1], -1), ([4], None))
        for choice in itertools.product(cards, pools, moneys, rows):
            card, pool, money, row = [part[0] for part in choice]
            in_order = [part[1] for part in choice[:3]] + [-1 if pool == 1 else choice[3][1]]
            in_order = in_order + [-3 if money == [] else None]
            expected = [[refusal] for refusal in in_order if refusal is not None] + [[0, 2, 3]]
            self.assertEqual(ask(card, money, row, pool), expected[0], (pool, money, row))

    def test_money_without_cents_isnt_right(self):
        self.assertEqual(ask(self.RIGHT, [(0, 0)], [4]), [-5])

    def test_nothing_is_kept(self):
        calls = [(self.RIGHT, self.MONEY, [4], 0), (self.RIGHT + " ", self.MONEY, [4], 0), (self.RIGHT, [], [4], 0),
                 (card_text(["race 5"]), [(1, 1)], [2], 0), (self.RIGHT, self.WRONG_MONEY, [4], 0),
                 (self.RIGHT, self.MONEY, [4, 1], 0), (self.RIGHT, self.MONEY, [5], 1)]
        alone = [ask(*call) for call in calls]
        for first, second in itertools.product(range(len(calls)), repeat=2):
            self.assertEqual([ask(*calls[first]), ask(*calls[second])], [alone[first], alone[second]])

    def test_nothing_is_printed(self):
        said = io.StringIO()
        with contextlib.redirect_stdout(said), contextlib.redirect_stderr(said):
            ask(self.RIGHT, self.MONEY, [4])
            ask("", self.MONEY, [4])
        self.assertEqual(said.getvalue(), "")


class AgainstTheModel(unittest.TestCase):
    def test_shuffled_calls(self):
        seen = {}
        for call in shuffled_calls(11, 4000):
            answer = ask(*call)
            self.assertEqual(answer, model_order(*call), call)
            seen[answer[0]] = seen.get(answer[0], 0) + 1
        self.assertEqual(sorted(seen), [-8, -5, -4, -3, -1, 0])
        self.assertGreater(min(seen.values()), 20, seen)


if __name__ == "__main__":
    unittest.main()
