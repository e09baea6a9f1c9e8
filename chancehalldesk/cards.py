"""Reading a card: which pools it has, and over which interests each of them goes."""

LETTERS = "abcdefghijklmnopqrstuvwxyz"
SIGNS = "abcdefghijklmnopqrstuvwxyz0123456789 \n"
LONGEST_NAME = 12
LONGEST_NUMBER = 5
MOST_RACES = 16
MOST_POOLS = 64
MOST_RUNNERS = 24
MOST_COUPLES = 8
MOST_TAKE = 400
MOST_BREAK = 1000
MOST_UNIT = 10000
WORDS_OF_POOL = 16
FIXED_WORDS_OF_POOL = (
    (0, "pool"), (4, "from"), (6, "take"), (8, "break"), (10, "least"), (12, "unit"), (14, "none"),
)
SIZES_OF_KIND = {"place": (1, 4), "order": (2, 4), "any": (2, 3), "legs": (2, 6)}
WAYS_OF_NONE = ("refund", "carry", "fewer")


class NoCard(Exception):
    pass


# fields: the interests of the pool's race; of legs, those of each leg's race in turn.
class Pool:
    def __init__(self, name, kind, size, fields):
        self.name = name
        self.kind = kind
        self.size = size
        self.fields = fields


def read_card(card):
    lines = lines_of(card)
    check_day(lines[0].split(" "))
    races = []
    pools = []
    for line in lines[1:]:
        words = line.split(" ")
        # A race behind a pool is read as a pool, which it can't be.
        if words[0] == "race" and len(pools) == 0:
            races.append(read_race(words))
        else:
            pools.append(read_pool(words, races))
    if len(races) < 1 or len(races) > MOST_RACES or len(pools) > MOST_POOLS:
        raise NoCard()
    check_names_differ(pools)
    return pools


def lines_of(card):
    lines = text_of(card).split("\n")
    # What stands behind the last NL: nothing, if every line has its NL.
    if lines.pop() != "" or len(lines) == 0:
        raise NoCard()
    return lines


def text_of(card):
    sign_of_byte = {}
    for sign in SIGNS:
        sign_of_byte[ord(sign)] = sign
    signs = []
    for byte in card:
        if byte not in sign_of_byte:
            raise NoCard()
        signs.append(sign_of_byte[byte])
    return "".join(signs)


def check_day(words):
    if len(words) != 2 or words[0] != "day":
        raise NoCard()
    check_name(words[1])


# A word holds letters and digits alone, since a card's text has no other signs: so its first sign is left to ask for.
def check_name(word):
    if len(word) < 1 or len(word) > LONGEST_NAME or word[0] not in LETTERS:
        raise NoCard()


def check_names_differ(pools):
    seen = {}
    for pool in pools:
        if pool.name in seen:
            raise NoCard()
        seen[pool.name] = True


def read_number(word, lowest, highest):
    # A longer number is above every bound of a card, and Python refuses to read one of some thousands of digits.
    if not word.isdigit() or len(word) > LONGEST_NUMBER:
        raise NoCard()
    if word[0] == "0" and word != "0":
        raise NoCard()
    number = int(word)
    if number < lowest or number > highest:
        raise NoCard()
    return number


def read_race(words):
    couple_words = len(words) - 2
    if couple_words < 0 or couple_words % 3 != 0 or couple_words // 3 > MOST_COUPLES:
        raise NoCard()
    runners = read_number(words[1], 2, MOST_RUNNERS)
    firsts = {}
    seconds = {}
    for at in range(2, len(words), 3):
        if words[at] != "couple":
            raise NoCard()
        first = read_number(words[at + 1], 1, runners)
        second = read_number(words[at + 2], 1, runners)
        if first >= second or first in seconds or second in firsts or second in seconds:
            raise NoCard()
        firsts[first] = True
        seconds[second] = True
    return [runner for runner in range(1, runners + 1) if runner not in seconds]


def read_pool(words, races):
    check_fixed_words(words)
    check_name(words[1])
    kind = words[2]
    if kind not in SIZES_OF_KIND:
        raise NoCard()
    sizes = SIZES_OF_KIND[kind]
    size = read_number(words[3], sizes[0], sizes[1])
    race = read_number(words[5], 1, len(races))
    check_terms(words[7], words[9], words[11], words[13])
    check_none(words[15], kind)
    return Pool(words[1], kind, size, fields_of(kind, size, race, races))


def check_fixed_words(words):
    if len(words) != WORDS_OF_POOL:
        raise NoCard()
    for at, word in FIXED_WORDS_OF_POOL:
        if words[at] != word:
            raise NoCard()


def check_terms(take_word, break_word, least_word, unit_word):
    read_number(take_word, 0, MOST_TAKE)
    read_number(break_word, 1, MOST_BREAK)
    unit = read_number(unit_word, 1, MOST_UNIT)
    least = read_number(least_word, 0, 2 * unit)
    if least != 0 and least < unit:
        raise NoCard()


def check_none(word, kind):
    if word not in WAYS_OF_NONE:
        raise NoCard()
    if word == "fewer" and kind == "place":
        raise NoCard()


def fields_of(kind, size, race, races):
    if kind == "legs":
        if race + size - 1 > len(races):
            raise NoCard()
        return races[race - 1:race - 1 + size]
    field = races[race - 1]
    if len(field) < size:
        raise NoCard()
    return [field]
