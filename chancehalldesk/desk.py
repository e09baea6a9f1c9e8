"""The calls of the desk; each answers a list of whole numbers, a refusal below 0 by itself."""

from chancehalldesk.cards import NoCard, read_card
from chancehalldesk.chances import chance_of_order, chance_of_set
from chancehalldesk.fraction import add_fractions, is_right
from chancehalldesk.stakes import cents_of_interests, is_money_right

CARD_TOO_LONG = -2
NO_CARD = -8
NO_SUCH_POOL = -4
MONEY_NOT_RIGHT = -5
WRONG_POOL_OR_ROW = -1
NO_MONEY = -3
FRACTION_NOT_RIGHT = -6
SUM_ABOVE_ONE = -9
NO_UNIT = -1
NO_CHANCE = -7
FIRST_IS_MORE = 2
BOTH_ARE_THE_SAME = 1
FIRST_IS_LESS = 0
LONGEST_CARD = 65536
LONGEST_ORDER = 4
SMALLEST_SET = 2
LARGEST_SET = 3


def order(pool, card, money, row):
    return answer_chance(pool, card, money, row, is_order, chance_of_order)


def any_of(pool, card, money, row):
    return answer_chance(pool, card, money, row, is_set, chance_of_set)


def more(over, under, other_over, other_under):
    if not is_right(over, under) or not is_right(other_over, other_under):
        return [FRACTION_NOT_RIGHT]
    # Both unders are above 0, so this compares as the fractions do, without dividing.
    first = over * other_under
    second = other_over * under
    if first > second:
        return [0, FIRST_IS_MORE]
    if first == second:
        return [0, BOTH_ARE_THE_SAME]
    return [0, FIRST_IS_LESS]


def sum_of(over, under, other_over, other_under):
    if not is_right(over, under) or not is_right(other_over, other_under):
        return [FRACTION_NOT_RIGHT]
    total = add_fractions(over, under, other_over, other_under)
    if total[0] > total[1]:
        return [SUM_ABOVE_ONE]
    return [0, total[0], total[1]]


def fair(over, under, unit):
    if not is_right(over, under):
        return [FRACTION_NOT_RIGHT]
    if unit == 0:
        return [NO_UNIT]
    if over == 0:
        return [NO_CHANCE]
    return [0, unit * under // over]


def answer_chance(pool, card, money, row, is_row_right, chance_of):
    if len(card) > LONGEST_CARD:
        return [CARD_TOO_LONG]
    try:
        pools = read_card(card)
    except NoCard:
        return [NO_CARD]
    if pool >= len(pools):
        return [NO_SUCH_POOL]
    asked = pools[pool]
    if not is_money_right(money, asked):
        return [MONEY_NOT_RIGHT]
    if not is_on_firsts(asked) or not is_row_right(row, asked.fields[0]):
        return [WRONG_POOL_OR_ROW]
    if len(money) == 0:
        return [NO_MONEY]
    chance = chance_of(row, cents_of_interests(money, asked.fields[0]))
    return [0, chance[0], chance[1]]


def is_on_firsts(pool):
    return pool.kind == "place" and pool.size == 1


def is_order(row, interests):
    if len(row) < 1 or len(row) > LONGEST_ORDER:
        return False
    seen = {}
    for interest in row:
        if interest not in interests or interest in seen:
            return False
        seen[interest] = True
    return True


def is_set(row, interests):
    if len(row) < SMALLEST_SET or len(row) > LARGEST_SET:
        return False
    # Interests begin at 1, and those that rise differ.
    interest_before = 0
    for interest in row:
        if interest not in interests or interest <= interest_before:
            return False
        interest_before = interest
    return True
