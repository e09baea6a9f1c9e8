"""Chances, as fractions (over, under) in lowest terms."""


def greatest_divisor(one, other):
    while other != 0:
        rest = one % other
        one = other
        other = rest
    return one


def lowest_terms(over, under):
    divisor = greatest_divisor(over, under)
    return (over // divisor, under // divisor)


def chance_of_order(row, cents_of):
    over = 1
    under = 1
    left = sum(cents_of.values())
    for interest in row:
        cents = cents_of[interest]
        # Asked before left is multiplied in: behind an interest with all the cents left is 0.
        if cents == 0:
            return (0, 1)
        over = over * cents
        under = under * left
        left = left - cents
    return lowest_terms(over, under)
