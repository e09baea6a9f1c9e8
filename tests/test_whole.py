"""What the document promises over the whole program: the calls taken together."""

import itertools
import math
import unittest

from chancehalldesk import desk
from tests.helper import (
    GREATEST, GREATEST_PART, MOST_CENTS, Watched, as_bytes, ask, ask_any, ask_numbers, card_text, flat, moneys,
    pool_line)

SIX = card_text(["race 6"])
# Interests 1, 3, 5 and 6: runners 2 and 4 go with 1.
COUPLED = card_text(["race 6 couple 1 2 couple 1 4"])


def races():
    """Cards, their interests and money on them, small and the greatest."""
    for pairs in moneys():
        yield SIX, [1, 2, 3, 4, 5, 6], pairs
    for pairs in ([(0, 3), (1, 1), (3, 8)], [(2, 5)], [(0, 2), (3, 4)], [(0, 1), (1, 1), (2, 1), (3, 1)],
                  [(0, 2 ** 46 + 7), (1, 2 ** 46 - 9), (2, 2 ** 46 + 11), (3, MOST_CENTS - 3 * 2 ** 46 - 9)]):
        yield COUPLED, [1, 3, 5, 6], pairs


def small_races():
    """Those whose sums stay below what sum_of may be handed."""
    return [race for race in races() if sum(cents for number, cents in race[2]) < 100]


def added(answers):
    """The sum, by sum_of, of what order or any_of answered."""
    total = [0, 0, 1]
    for kind, over, under in answers:
        total = ask_numbers(desk.sum_of, total[1], total[2], over, under)
        if total[0] != 0 or total[2] > GREATEST_PART:
            raise AssertionError(f"no sum that may be handed in again: {total!r}")
    return total


class WholeProgram(unittest.TestCase):
    def check_total(self, answers, pairs, size):
        if len(pairs) >= size:
            self.assertEqual(added(answers), [0, 1, 1], (pairs, size))
        else:
            self.assertEqual([answer for answer in answers if answer != [0, 0, 1]], [], (pairs, size))

    def test_g1_orders_add_up_to_one(self):
        for (card, interests, pairs), size in itertools.product(small_races(), (1, 2, 3, 4)):
            rows = itertools.permutations(interests, size)
            self.check_total([ask(card, pairs, list(row)) for row in rows], pairs, size)

    def test_g1_sets_add_up_to_one(self):
        for (card, interests, pairs), size in itertools.product(small_races(), (2, 3)):
            rows = itertools.combinations(interests, size)
            self.check_total([ask_any(card, pairs, list(row)) for row in rows], pairs, size)

    def test_g2_a_sets_chance_is_the_sum_of_its_orders(self):
        for (card, interests, pairs), size in itertools.product(races(), (2, 3)):
            for row in itertools.combinations(interests, size):
                orders = [ask(card, pairs, list(placed)) for placed in itertools.permutations(row)]
                self.assertEqual(ask_any(card, pairs, list(row)), added(orders), (pairs, row))

    def answers(self):
        for card, interests, pairs in races():
            for size in (1, 2, 3, 4):
                yield ask(card, pairs, interests[:size])
                yield ask(card, pairs, interests[::-1][:size])
            for size in (2, 3):
                yield ask_any(card, pairs, interests[:size])
                yield ask_any(card, pairs, interests[-size:])

    def test_g3_lowest_terms(self):
        for kind, over, under in self.answers():
            self.assertEqual((kind, math.gcd(over, under)), (0, 1))
            self.assertEqual(ask_numbers(desk.sum_of, over, under, under - over, under), [0, 1, 1])
            # Over an under twice as great an odd over is still in lowest terms, and the sum of two such is not.
            if over % 2 == 1:
                self.assertEqual(ask_numbers(desk.sum_of, over, 2 * under, over, 2 * under), [0, over, under])

    def test_chances_are_taken_as_right_fractions(self):
        for kind, over, under in self.answers():
            self.assertLess(under, GREATEST_PART)
            self.assertEqual(ask_numbers(desk.more, over, under, over, under), [0, 1])
            self.assertEqual(ask_numbers(desk.more, 1, 1, over, under), [0, 1 if over == under else 2])
            self.assertEqual(ask_numbers(desk.more, over, under, 0, 1), [0, 1 if over == 0 else 2])
            self.assertEqual(ask_numbers(desk.sum_of, over, under, 0, 1), [0, over, under])
            pay = [-7] if over == 0 else [0, 100 * under // over]
            self.assertEqual(ask_numbers(desk.fair, over, under, 100), pay)
            self.assertEqual(ask_numbers(desk.fair, over, under, 0), [-1])

    def test_g4_more_money_is_likelier_first(self):
        for card, interests, pairs in races():
            cents = dict(pairs)
            first = [ask(card, pairs, [interest]) for interest in interests]
            for one, other in itertools.product(range(len(interests)), repeat=2):
                mine, theirs = cents.get(one, 0), cents.get(other, 0)
                likelier = 2 if mine > theirs else 1 if mine == theirs else 0
                self.assertEqual(ask_numbers(desk.more, *first[one][1:], *first[other][1:]), [0, likelier])

    def test_g4_by_one_cent_of_the_most(self):
        half = MOST_CENTS // 2
        pairs = [(0, half), (1, half + 1)]
        first, second = ask(SIX, pairs, [1]), ask(SIX, pairs, [2])
        self.assertEqual(ask_numbers(desk.more, *second[1:], *first[1:]), [0, 2])
        self.assertEqual(ask_numbers(desk.more, *first[1:], *second[1:]), [0, 0])


class EachCallByItself(unittest.TestCase):
    CARD = as_bytes(card_text(["race 6 couple 1 2", "race 4"], [pool_line(), pool_line("b", "any", "2", "2")]))
    MONEY = flat([(0, 400), (1, 300), (2, 200), (4, 100)])

    def calls(self):
        yield desk.order, (0, self.CARD, self.MONEY, [1, 4])
        yield desk.order, (1, self.CARD, self.MONEY, [1, 4])
        yield desk.order, (0, self.CARD, [], [1, 4])
        yield desk.any_of, (0, self.CARD, self.MONEY, [1, 4])
        yield desk.any_of, (0, self.CARD, self.MONEY, [4, 1])
        yield desk.any_of, (0, self.CARD[:-1], self.MONEY, [1, 4])
        yield desk.more, (1, 2, 1, 3)
        yield desk.more, (2, 4, 1, 3)
        yield desk.sum_of, (1, 2, 1, 3)
        yield desk.sum_of, (1, 2, 2, 3)
        yield desk.fair, (2, 3, 100)
        yield desk.fair, (0, 1, GREATEST)

    def test_a_call_answers_the_same_whatever_came_before(self):
        calls = list(self.calls())
        alone = [call(*arguments) for call, arguments in calls]
        for first, second in itertools.product(range(len(calls)), repeat=2):
            answers = [call(*arguments) for call, arguments in (calls[first], calls[second])]
            self.assertEqual(answers, [alone[first], alone[second]], (first, second))

    def test_an_answer_that_is_changed_changes_no_other(self):
        for call, arguments in self.calls():
            answer = call(*arguments)
            kept = list(answer)
            answer.clear()
            self.assertEqual(call(*arguments), kept)

    def test_lists_handed_in_stay_as_they_were(self):
        for call, arguments in self.calls():
            watched = [Watched(part) if isinstance(part, list) else part for part in arguments]
            call(*watched)
            self.assertEqual(watched, list(arguments))

    def test_longest_lists_are_taken(self):
        text = card_text(["race 24"] * 16, [pool_line(f"p{i}", "legs", "6") for i in range(63)] + [pool_line()])
        card = as_bytes(text)
        money = flat([(number, 1) for number in range(8000)])
        for call in (desk.order, desk.any_of):
            self.assertEqual(call(0, card, money, list(range(100))), [-1])
            self.assertEqual(call(63, card, money, list(range(100))), [-5])
            self.assertEqual(call(63, card, money[:48], list(range(100))), [-1])
            self.assertEqual(call(0, [10] * 65536, money, list(range(100))), [-8])
            self.assertEqual(call(0, [32] * 65536, money, list(range(100))), [-8])
            self.assertEqual(call(0, [10] * 66000, money, list(range(100))), [-2])


if __name__ == "__main__":
    unittest.main()
