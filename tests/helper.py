"""What the tests share: cards put together line by line, asking with watched lists, and a model to compare with.

The model is written another way than the program on purpose: a regular expression for the card, rows of
combinations written out one by one, and fractions of Python's own.
"""

import contextlib
import itertools
import math
import random
import re
import signal
from fractions import Fraction

from chancehalldesk import desk

NO_POOL_HAS_THIS = 4294967295
MOST_CENTS = 2 ** 48 - 1
GREATEST_CENTS = 2 ** 64 - 1
GREATEST = 2 ** 32 - 1
GREATEST_PART = 2 ** 400 - 1

# Pairs of an over and an under, one list for each way in which they are no right fraction.
NOT_RIGHT = {
    "under 0, over 0": [(0, 0)],
    "under 0, over above 0": [(1, 0), (2, 0), (7, 0), (GREATEST_PART, 0)],
    "over above under": [(2, 1), (3, 2), (8, 7), (GREATEST_PART, 1), (GREATEST_PART, GREATEST_PART - 1)],
    "not in lowest terms": [(2, 2), (2, 4), (6, 9), (3, 3), (15, 35), (2 ** 398, 2 ** 399), (3 ** 251, 3 ** 252),
                            (GREATEST_PART, GREATEST_PART), (2 ** 200 - 1, GREATEST_PART)],
    "0 over an under above 1": [(0, 2), (0, 3), (0, 10), (0, 2 ** 399), (0, GREATEST_PART)],
    "over above under, and not in lowest terms": [(4, 2), (9, 6), (GREATEST_PART, 2 ** 200 - 1)],
}
ALL_NOT_RIGHT = [pair for pairs in NOT_RIGHT.values() for pair in pairs]

RIGHT = [(0, 1), (1, 1), (1, 2), (1, 3), (2, 3), (3, 7), (6, 35), (999, 1000), (1, GREATEST_PART),
         (GREATEST_PART - 1, GREATEST_PART), (2 ** 399, GREATEST_PART), (3 ** 252, GREATEST_PART - 2)]

RACES = ("race 5 couple 2 4", "race 7", "race 3 couple 1 3", "race 2", "race 24", "race 2 couple 1 2")
INTERESTS = (4, 7, 2, 2, 24, 1)


class Watched(list):
    """A list that can be read but not changed, not for a while either."""

    def refuse(self, *args, **kwargs):
        raise AssertionError("a list that was handed in is changed")

    append = extend = insert = remove = pop = clear = sort = reverse = refuse
    __setitem__ = __delitem__ = __iadd__ = __imul__ = refuse


def pool_line(name="win", kind="place", k="1", race="1", take="150", brk="10", least="100", unit="100", none="refund"):
    return (f"pool {name} {kind} {k} from {race} take {take} break {brk} "
            f"least {least} unit {unit} none {none}\n")


def card_text(races=("race 4",), pools=None, day="day d"):
    lines = [day + "\n"] + [race + "\n" for race in races]
    return "".join(lines) + "".join([pool_line()] if pools is None else pools)


def as_bytes(card):
    return list(card.encode("latin-1")) if isinstance(card, str) else list(card)


def flat(pairs):
    return [number for pair in pairs for number in pair]


def all_pools():
    """Kinds, sizes and races of pools over RACES, and how many combinations each has."""
    for race, interests in enumerate(INTERESTS, start=1):
        for k in range(1, min(interests, 4) + 1):
            yield ("place", k, race), interests
        for k in range(2, min(interests, 4) + 1):
            yield ("order", k, race), math.perm(interests, k)
        for k in range(2, min(interests, 3) + 1):
            yield ("any", k, race), math.comb(interests, k)
        for k in range(2, len(INTERESTS) - race + 2):
            yield ("legs", k, race), math.prod(INTERESTS[race - 1:race - 1 + k])


def check_answer(answer):
    if type(answer) is not list or any(type(number) is not int for number in answer):
        raise AssertionError(f"not a list of whole numbers: {answer!r}")


def ask(card, pairs, row, pool=0, call=desk.order):
    """Asks order or any_of twice, first with lists that can't be changed; the two answers must be one."""
    byte_list = as_bytes(card)
    money = flat(pairs)
    handed = (Watched(byte_list), Watched(money), Watched(row))
    answer = call(pool, *handed)
    check_answer(answer)
    if [list(part) for part in handed] != [byte_list, money, list(row)]:
        raise AssertionError("what was handed in is changed")
    if call(pool, byte_list, money, list(row)) != answer:
        raise AssertionError("the second call answers otherwise than the first")
    return answer


def ask_any(card, pairs, row, pool=0):
    return ask(card, pairs, row, pool, desk.any_of)


@contextlib.contextmanager
def ending_at_once():
    """What stands within must end in some seconds: a way that takes steps by the numbers' size would never end."""
    def stop(number, frame):
        raise AssertionError("it doesn't end at once")

    before = signal.signal(signal.SIGALRM, stop)
    signal.alarm(20)
    try:
        yield
    finally:
        signal.alarm(0)
        signal.signal(signal.SIGALRM, before)


def fibonacci(most):
    """The numbers of Fibonacci from 1, 2 on up to most: neighbours among them have the longest way to their divisor."""
    numbers = [1, 2]
    while numbers[-1] + numbers[-2] <= most:
        numbers.append(numbers[-1] + numbers[-2])
    return numbers


def ask_numbers(call, *numbers):
    """Asks more, sum_of or fair twice; the two answers must be one."""
    answer = call(*numbers)
    check_answer(answer)
    if call(*numbers) != answer:
        raise AssertionError("the second call answers otherwise than the first")
    return answer


def chance(card, pairs, row, call=desk.order):
    answer = ask(card, pairs, row, call=call)
    if len(answer) != 3 or answer[0] != 0:
        raise AssertionError(f"no chance: {answer!r}")
    return Fraction(answer[1], answer[2])


def is_card(card):
    answer = ask(card, [], [], NO_POOL_HAS_THIS)
    if answer not in ([-4], [-8]):
        raise AssertionError(f"neither a card nor none: {answer!r}")
    return answer == [-4]


def told(fraction):
    return [0, fraction.numerator, fraction.denominator]


NAME = "[a-z][a-z0-9]{0,11}"
NUMBER = "(?:0|[1-9][0-9]*)"
RACE = re.compile(f"race ({NUMBER})((?: couple {NUMBER} {NUMBER})*)")
POOL = re.compile(f"pool ({NAME}) (place|order|any|legs) ({NUMBER}) from ({NUMBER}) take ({NUMBER}) "
                  f"break ({NUMBER}) least ({NUMBER}) unit ({NUMBER}) none (refund|carry|fewer)")
CARD = re.compile(f"day {NAME}\n(?:{RACE.pattern}\n)*(?:{POOL.pattern}\n)*")


def model_interests(runners, couples):
    if not 2 <= runners <= 24 or len(couples) > 8:
        return None
    for at, (a, b) in enumerate(couples):
        before = couples[:at]
        if not 1 <= a < b <= runners or a in [x[1] for x in before] or b in itertools.chain(*before):
            return None
    return [runner for runner in range(1, runners + 1) if runner not in [b for a, b in couples]]


def model_pool(words, races):
    name, kind, k, race, take, brk, least, unit, none = [int(w) if w.isdigit() else w for w in words]
    bounds = {"place": (1, 4), "order": (2, 4), "any": (2, 3), "legs": (2, 6)}[kind]
    last_race = race + k - 1 if kind == "legs" else race
    right = [bounds[0] <= k <= bounds[1], 1 <= race <= last_race <= len(races), take <= 400, 1 <= brk <= 1000,
             1 <= unit <= 10000, least == 0 or unit <= least <= 2 * unit, kind != "place" or none != "fewer"]
    if not all(right) or (kind != "legs" and len(races[race - 1]) < k):
        return None
    return name, kind, k, races[race - 1:last_race]


def model_pools(text):
    if not CARD.fullmatch(text):
        return None
    lines = text.split("\n")[1:-1]
    races = []
    for runners, couples in [RACE.fullmatch(line).groups() for line in lines if line.startswith("race")]:
        numbers = [int(n) for n in couples.replace("couple", "").split()]
        races.append(model_interests(int(runners), list(zip(numbers[::2], numbers[1::2]))))
    if not 1 <= len(races) <= 16 or None in races:
        return None
    pools = [model_pool(POOL.fullmatch(line).groups(), races) for line in lines if line.startswith("pool")]
    if len(pools) > 64 or None in pools or len({pool[0] for pool in pools}) < len(pools):
        return None
    return pools


def model_rows(kind, k, fields):
    """All combinations of a pool, in the order of their numbers."""
    rows = {
        "place": lambda: [(interest,) for interest in fields[0]],
        "order": lambda: itertools.permutations(fields[0], k),
        "any": lambda: itertools.combinations(fields[0], k),
        "legs": lambda: itertools.product(*fields),
    }[kind]()
    return sorted(rows)


def model_chance(cents_of, row):
    chance = Fraction(1)
    left = dict(cents_of)
    for interest in row:
        if cents_of[interest] == 0:
            return Fraction(0)
        chance = chance * Fraction(left[interest], sum(left.values()))
        left.pop(interest)
    return chance


def model_right(over, under):
    if under == 0:
        return False
    fraction = Fraction(over, under)
    return fraction <= 1 and (fraction.numerator, fraction.denominator) == (over, under)


def model_more(over, under, other_over, other_under):
    if not model_right(over, under) or not model_right(other_over, other_under):
        return [-6]
    first, second = Fraction(over, under), Fraction(other_over, other_under)
    return [0, 2 if first > second else 1 if first == second else 0]


def model_sum(over, under, other_over, other_under):
    if not model_right(over, under) or not model_right(other_over, other_under):
        return [-6]
    total = Fraction(over, under) + Fraction(other_over, other_under)
    return [-9] if total > 1 else told(total)


def model_fair(over, under, unit):
    if not model_right(over, under):
        return [-6]
    if unit == 0:
        return [-1]
    return [-7] if over == 0 else [0, math.floor(unit / Fraction(over, under))]


def model_set_chance(cents_of, row):
    return sum(model_chance(cents_of, placed) for placed in itertools.permutations(row))


def model_order(text, pairs, row, pool=0):
    is_right = 1 <= len(row) <= 4 and len(set(row)) == len(row)
    return model_answer(text, pairs, row, pool, is_right, model_chance)


def model_any(text, pairs, row, pool=0):
    is_right = 2 <= len(row) <= 3 and sorted(set(row)) == row
    return model_answer(text, pairs, row, pool, is_right, model_set_chance)


def model_answer(text, pairs, row, pool, is_right_row, chance_of):
    if len(text) > 65536:
        return [-2]
    pools = model_pools(text)
    if pools is None:
        return [-8]
    if pool >= len(pools):
        return [-4]
    name, kind, k, fields = pools[pool]
    rows = model_rows(kind, k, fields)
    numbers = [number for number, cents in pairs]
    if numbers != sorted(set(numbers)) or any(number >= len(rows) for number in numbers):
        return [-5]
    if any(cents < 1 for number, cents in pairs) or sum(cents for number, cents in pairs) > MOST_CENTS:
        return [-5]
    if (kind, k) != ("place", 1) or not is_right_row or set(row) - set(fields[0]):
        return [-1]
    if not pairs:
        return [-3]
    cents_of = dict.fromkeys(fields[0], 0)
    cents_of.update({rows[number][0]: cents for number, cents in pairs})
    return told(chance_of(cents_of, row))


def moneys():
    """Money of many shapes on a race of six: few and many interests with cents, small and the greatest cents."""
    dice = random.Random(7)
    for with_money in range(1, 7):
        for most in (1, 12, 1000, MOST_CENTS // 6):
            numbers = sorted(dice.sample(range(6), with_money))
            yield [(number, dice.randint(1, most)) for number in numbers]


def shuffled_card(dice):
    races = []
    for i in range(dice.randint(1, 4)):
        couples = [f" couple {dice.randint(1, 4)} {dice.randint(3, 7)}" for j in range(dice.choice((0, 0, 1, 2)))]
        races.append(f"race {dice.randint(4, 8)}" + "".join(couples))
    pools = []
    for i in range(dice.randint(1, 3)):
        kind = dice.choice(("place", "place", "place", "order", "any", "legs"))
        size = 1 if kind == "place" and dice.random() < 0.7 else dice.randint(2, 3)
        pools.append(pool_line(dice.choice("abcdefgh"), kind, size, dice.randint(1, len(races))))
    return card_text(races, pools)


def shuffled_calls(seed, count):
    """Texts, pairs, rows and pools, right and wrong, in the order of ask's arguments."""
    dice = random.Random(seed)
    for i in range(count):
        text = shuffled_card(dice)
        if dice.random() < 0.2:
            at = dice.randrange(len(text))
            text = text[:at] + dice.choice(("", " ", "\n", "0", "1", "9", "a")) + text[at + dice.randint(0, 1):]
        numbers = sorted(dice.sample(range(dice.choice((4, 8, 40))), dice.randint(0, 4)))
        if dice.random() < 0.05:
            dice.shuffle(numbers)
        pairs = [(number, dice.randint(0 if dice.random() < 0.1 else 1, 9)) for number in numbers]
        row = [dice.randint(1, 5) for j in range(dice.choice((1, 1, 2, 2, 3, 4, 5)))]
        yield text, pairs, row, dice.choice((0, 0, 0, 1, 2))
