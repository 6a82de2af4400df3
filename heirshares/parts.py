"""Parts of an estate, exact: pairs of above and below, and amounts, dicts of what part each person has."""

NOTHING = (0, 1)
ALL = (1, 1)
GREATEST_BELOW = 100


def may_be_told(fraction):
    above = fraction[0]
    below = fraction[1]
    return 1 <= below <= GREATEST_BELOW and above <= below


def in_lowest_terms(above, below):
    divisor = below
    rest = above
    while rest != 0:
        remainder = divisor % rest
        divisor = rest
        rest = remainder
    return (above // divisor, below // divisor)


def plus(one, other):
    return in_lowest_terms(one[0] * other[1] + other[0] * one[1], one[1] * other[1])


def minus(one, other):
    return in_lowest_terms(one[0] * other[1] - other[0] * one[1], one[1] * other[1])


def times(one, other):
    return in_lowest_terms(one[0] * other[0], one[1] * other[1])


def divided(one, other):
    return in_lowest_terms(one[0] * other[1], one[1] * other[0])


def is_more(one, other):
    return one[0] * other[1] > other[0] * one[1]


def total(fractions):
    together = NOTHING
    for fraction in fractions:
        together = plus(together, fraction)
    return together


def add_to(amounts, number, amount):
    amounts[number] = plus(amounts.get(number, NOTHING), amount)


def add_in_equal_parts(amounts, numbers, amount):
    for number in numbers:
        add_to(amounts, number, divided(amount, (len(numbers), 1)))


def without_nothing(amounts):
    some = {}
    for number in amounts:
        if is_more(amounts[number], NOTHING):
            some[number] = amounts[number]
    return some
