"""What becomes of an estate."""

from heirshares.family import NOBODY
from heirshares.kinship import is_close
from heirshares.lines import Lines
from heirshares.parts import ALL, NOTHING, add_to, divided, is_more, minus, plus, times, total, without_nothing


def spouse_part(land, dead, generations):
    if not land.family.may_take(land.family.numbered(dead).spouse, dead):
        return NOTHING
    if generations is None:
        return ALL
    return land.law.spouse_parts[generations]


def shared_by_law(land, dead):
    lines = Lines(land.family, land.law, dead)
    generations = lines.class_that_takes()
    for_spouse = spouse_part(land, dead, generations)
    amounts = {}
    if generations is not None:
        amounts = lines.give_above(generations, minus(ALL, for_spouse))
    add_to(amounts, land.family.numbered(dead).spouse, for_spouse)
    return without_nothing(amounts)


def given_by_will(land, dead):
    amounts = {}
    for gift in land.wills.will_of(dead):
        taker = gift.who_takes(land.family)
        if taker != NOBODY:
            add_to(amounts, taker, gift.portion)
    return amounts


def made_greater(amounts):
    """The amounts, all made greater by the same factor till they're all."""
    given = total(list(amounts.values()))
    greater = {}
    for number in amounts:
        greater[number] = divided(amounts[number], given)
    return greater


def wished(land, dead):
    by_law = shared_by_law(land, dead)
    amounts = given_by_will(land, dead)
    if len(by_law) == 0:
        return made_greater(amounts)
    left = minus(ALL, total(list(amounts.values())))
    for number in by_law:
        add_to(amounts, number, times(by_law[number], left))
    return amounts


def kept(land, dead):
    by_law = shared_by_law(land, dead)
    amounts = {}
    for number in by_law:
        if is_close(land.family, number, dead):
            amounts[number] = times(by_law[number], land.law.kept_part)
    return amounts


def shares(land, dead):
    wishes = wished(land, dead)
    least = kept(land, dead)
    more = {}
    missing = NOTHING
    for number in wishes:
        enough = least.get(number, NOTHING)
        if is_more(wishes[number], enough):
            more[number] = minus(wishes[number], enough)
        else:
            missing = plus(missing, minus(enough, wishes[number]))
    all_more = total(list(more.values()))
    amounts = dict(least)
    for number in more:
        amounts[number] = minus(wishes[number], times(missing, divided(more[number], all_more)))
    return without_nothing(amounts)


def ends(land, number, day):
    """What each person has of somebody's estate on a day; nobody has what nobody took."""
    amounts = {number: ALL}
    for dead in land.family.dead_by(day):
        if dead in amounts:
            amount = amounts.pop(dead)
            takers = shares(land, dead)
            for taker in takers:
                add_to(amounts, taker, times(amount, takers[taker]))
            if len(takers) == 0:
                add_to(amounts, NOBODY, amount)
    return amounts
