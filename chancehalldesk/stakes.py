"""A pool's money: whether it is right for the pool, and what it lays on each interest."""

MOST_PAIRS = 262144
MOST_CENTS = 281474976710655


def product(numbers):
    result = 1
    for number in numbers:
        result = result * number
    return result


def count_combinations(pool):
    if pool.kind == "legs":
        return product([len(field) for field in pool.fields])
    interests = len(pool.fields[0])
    if pool.kind == "place":
        return interests
    orders = product([interests - before for before in range(pool.size)])
    if pool.kind == "order":
        return orders
    # One set of interests stands in as many orders as its size has.
    return orders // product([place + 1 for place in range(pool.size)])


def is_money_right(money, pool):
    if len(money) // 2 > MOST_PAIRS:
        return False
    combinations = count_combinations(pool)
    number_before = -1
    total = 0
    for at in range(0, len(money), 2):
        number = money[at]
        cents = money[at + 1]
        if number <= number_before or number >= combinations or cents == 0:
            return False
        number_before = number
        total = total + cents
    return total <= MOST_CENTS


# Of a pool of place the combination's number is the interest's place among the race's interests, from 0.
def cents_of_interests(money, interests):
    cents_of = {}
    for interest in interests:
        cents_of[interest] = 0
    for at in range(0, len(money), 2):
        cents_of[interests[money[at]]] = money[at + 1]
    return cents_of
