"""Chances, as fractions (over, under) in lowest terms."""

from chancehalldesk.fraction import add_fractions, lowest_terms


def chance_of_order(row, cents_of):
    over = 1
    under = 1
    left = sum(cents_of.values())
    for interest in row:
        cents = cents_of[interest]
        # Asked before left is multiplied in: behind an interest with all the cents left is 0.
        if cents == 0:
            return (0, 1)
        over = over * cents
        under = under * left
        left = left - cents
    return lowest_terms(over, under)


def chance_of_set(row, cents_of):
    total = (0, 1)
    for placed in orders_of(row):
        chance = chance_of_order(placed, cents_of)
        total = add_fractions(total[0], total[1], chance[0], chance[1])
    return total


def orders_of(row):
    orders = [[]]
    for interest in row:
        longer = []
        for placed in orders:
            for at in range(len(placed) + 1):
                longer.append(placed[:at] + [interest] + placed[at:])
        orders = longer
    return orders
