"""Fractions, as an over and an under."""


def greatest_divisor(one, other):
    while other != 0:
        rest = one % other
        one = other
        other = rest
    return one


# Of 0 and an under the greatest divisor is the under: so 0 is right over 1 alone.
def is_right(over, under):
    return under > 0 and over <= under and greatest_divisor(over, under) == 1


def lowest_terms(over, under):
    divisor = greatest_divisor(over, under)
    return (over // divisor, under // divisor)


def add_fractions(over, under, other_over, other_under):
    return lowest_terms(over * other_under + other_over * under, under * other_under)
