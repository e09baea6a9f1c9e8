"""What the tests share: cards put together line by line, asking with watched lists, and a model to compare with.

The model is written another way than the program on purpose: a regular expression for the card, rows of
combinations written out one by one, and fractions of Python's own.
"""

import itertools
import re
from fractions import Fraction

from chancehalldesk import desk

NO_POOL_HAS_THIS = 4294967295
MOST_CENTS = 2 ** 48 - 1


class Watched(list):
    """A list that can be read but not changed, not for a while either."""

    def refuse(self, *args, **kwargs):
        raise AssertionError("a list that was handed in is changed")

    append = extend = insert = remove = pop = clear = sort = reverse = refuse
    __setitem__ = __delitem__ = __iadd__ = __imul__ = refuse


def pool_line(name="win", kind="place", k="1", race="1", take="150", brk="10", least="100", unit="100", none="refund"):
    return (f"pool {name} {kind} {k} from {race} take {take} break {brk} "
            f"least {least} unit {unit} none {none}\n")


def card_text(races=("race 4",), pools=None, day="day d"):
    lines = [day + "\n"] + [race + "\n" for race in races]
    return "".join(lines) + "".join([pool_line()] if pools is None else pools)


def as_bytes(card):
    return list(card.encode("latin-1")) if isinstance(card, str) else list(card)


def flat(pairs):
    return [number for pair in pairs for number in pair]


def ask(card, pairs, row, pool=0):
    """Asks order twice with lists that can't be changed; the two answers must be one."""
    byte_list = as_bytes(card)
    money = flat(pairs)
    handed = (Watched(byte_list), Watched(money), Watched(row))
    answer = desk.order(pool, *handed)
    if [list(part) for part in handed] != [byte_list, money, list(row)]:
        raise AssertionError("what was handed in is changed")
    if desk.order(pool, byte_list, money, list(row)) != answer:
        raise AssertionError("the second call answers otherwise than the first")
    if type(answer) is not list or any(type(number) is not int for number in answer):
        raise AssertionError(f"not a list of whole numbers: {answer!r}")
    return answer


def is_card(card):
    answer = ask(card, [], [], NO_POOL_HAS_THIS)
    if answer not in ([-4], [-8]):
        raise AssertionError(f"neither a card nor none: {answer!r}")
    return answer == [-4]


def told(chance):
    return [0, chance.numerator, chance.denominator]


NAME = "[a-z][a-z0-9]{0,11}"
NUMBER = "(?:0|[1-9][0-9]*)"
RACE = re.compile(f"race ({NUMBER})((?: couple {NUMBER} {NUMBER})*)")
POOL = re.compile(f"pool ({NAME}) (place|order|any|legs) ({NUMBER}) from ({NUMBER}) take ({NUMBER}) "
                  f"break ({NUMBER}) least ({NUMBER}) unit ({NUMBER}) none (refund|carry|fewer)")
CARD = re.compile(f"day {NAME}\n(?:{RACE.pattern}\n)*(?:{POOL.pattern}\n)*")


def model_interests(runners, couples):
    if not 2 <= runners <= 24 or len(couples) > 8:
        return None
    for at, (a, b) in enumerate(couples):
        before = couples[:at]
        if not 1 <= a < b <= runners or a in [x[1] for x in before] or b in itertools.chain(*before):
            return None
    return [runner for runner in range(1, runners + 1) if runner not in [b for a, b in couples]]


def model_pool(words, races):
    name, kind, k, race, take, brk, least, unit, none = [int(w) if w.isdigit() else w for w in words]
    bounds = {"place": (1, 4), "order": (2, 4), "any": (2, 3), "legs": (2, 6)}[kind]
    last_race = race + k - 1 if kind == "legs" else race
    right = [bounds[0] <= k <= bounds[1], 1 <= race <= last_race <= len(races), take <= 400, 1 <= brk <= 1000,
             1 <= unit <= 10000, least == 0 or unit <= least <= 2 * unit, kind != "place" or none != "fewer"]
    if not all(right) or (kind != "legs" and len(races[race - 1]) < k):
        return None
    return name, kind, k, races[race - 1:last_race]


def model_pools(text):
    if not CARD.fullmatch(text):
        return None
    lines = text.split("\n")[1:-1]
    races = []
    for runners, couples in [RACE.fullmatch(line).groups() for line in lines if line.startswith("race")]:
        numbers = [int(n) for n in couples.replace("couple", "").split()]
        races.append(model_interests(int(runners), list(zip(numbers[::2], numbers[1::2]))))
    if not 1 <= len(races) <= 16 or None in races:
        return None
    pools = [model_pool(POOL.fullmatch(line).groups(), races) for line in lines if line.startswith("pool")]
    if len(pools) > 64 or None in pools or len({pool[0] for pool in pools}) < len(pools):
        return None
    return pools


def model_rows(kind, k, fields):
    """All combinations of a pool, in the order of their numbers."""
    rows = {
        "place": lambda: [(interest,) for interest in fields[0]],
        "order": lambda: itertools.permutations(fields[0], k),
        "any": lambda: itertools.combinations(fields[0], k),
        "legs": lambda: itertools.product(*fields),
    }[kind]()
    return sorted(rows)


def model_chance(cents_of, row):
    chance = Fraction(1)
    left = dict(cents_of)
    for interest in row:
        if cents_of[interest] == 0:
            return Fraction(0)
        chance = chance * Fraction(left[interest], sum(left.values()))
        left.pop(interest)
    return chance


def model_order(text, pairs, row, pool=0):
    if len(text) > 65536:
        return [-2]
    pools = model_pools(text)
    if pools is None:
        return [-8]
    if pool >= len(pools):
        return [-4]
    name, kind, k, fields = pools[pool]
    rows = model_rows(kind, k, fields)
    numbers = [number for number, cents in pairs]
    if numbers != sorted(set(numbers)) or any(number >= len(rows) for number in numbers):
        return [-5]
    if any(cents < 1 for number, cents in pairs) or sum(cents for number, cents in pairs) > MOST_CENTS:
        return [-5]
    if (kind, k) != ("place", 1) or not 1 <= len(row) <= 4 or len(set(row)) < len(row) or set(row) - set(fields[0]):
        return [-1]
    if not pairs:
        return [-3]
    cents_of = dict.fromkeys(fields[0], 0)
    cents_of.update({rows[number][0]: cents for number, cents in pairs})
    return told(model_chance(cents_of, row))
