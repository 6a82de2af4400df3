"""The calls on one land, read from a list of whole numbers, and their answers."""

from heirshares.estate import ends, kept, shared_by_law, shares
from heirshares.family import LAST_DAY, NOBODY, Family
from heirshares.kinship import nearest_ancestor
from heirshares.law import Law, law_at_first, law_may_say
from heirshares.replies import BAD_NUMBER, DONE, NO_ANCESTOR, NO_SUCH_PERSON, NOT_AS_THINGS_STAND
from heirshares.wills import Gift, Wills


class Land:
    def __init__(self):
        self.begin()

    def begin(self):
        self.law = law_at_first()
        self.family = Family()
        self.wills = Wills()


def answer_begins(land, numbers):
    land.begin()
    return [DONE]


def pairs(numbers):
    return [(numbers[at], numbers[at + 1]) for at in range(0, len(numbers), 2)]


def answer_law(land, numbers):
    kept_part = (numbers[1], numbers[2])
    spouse_parts = pairs(numbers[3:])
    if not law_may_say(kept_part, spouse_parts):
        return [BAD_NUMBER]
    land.law = Law(numbers[0], kept_part, spouse_parts)
    return [DONE]


def answer_person(land, numbers):
    return [land.family.add_person(numbers[0], numbers[1])]


def answer_dies(land, numbers):
    return [land.family.let_die(numbers[0], numbers[1])]


def answer_marry(land, numbers):
    return [land.family.marry(numbers[0], numbers[1])]


def answer_part(land, numbers):
    return [land.family.part(numbers[0])]


def answer_renounce(land, numbers):
    return [land.family.renounce(numbers[0], numbers[1])]


def answer_gift(land, numbers):
    gift = Gift(numbers[0], numbers[1], numbers[2], (numbers[3], numbers[4]))
    return [land.wills.add_gift(land.family, gift)]


def told(amounts):
    """How many there are, then of each the person and the share; what is nobody's comes last."""
    answer = [len(amounts)]
    for number in sorted(amounts, key=lambda each: (each == NOBODY, each)):
        answer.append(number)
        answer.extend(amounts[number])
    return answer


def answer_of_estate(land, dead, amounts_of):
    if not land.family.knows(dead):
        return [NO_SUCH_PERSON]
    if not land.family.numbered(dead).has_died():
        return [NOT_AS_THINGS_STAND]
    return told(amounts_of(land, dead))


def answer_by_law(land, numbers):
    return answer_of_estate(land, numbers[0], shared_by_law)


def answer_shares(land, numbers):
    return answer_of_estate(land, numbers[0], shares)


def answer_kept(land, numbers):
    return answer_of_estate(land, numbers[0], kept)


def answer_ends(land, numbers):
    if not land.family.knows(numbers[0]):
        return [NO_SUCH_PERSON]
    if numbers[1] > LAST_DAY:
        return [BAD_NUMBER]
    return told(ends(land, numbers[0], numbers[1]))


def answer_related(land, numbers):
    if not land.family.knows(numbers[0]) or not land.family.knows(numbers[1]):
        return [NO_SUCH_PERSON]
    nearest = nearest_ancestor(land.family, numbers[0], numbers[1])
    if nearest is None:
        return [NO_ANCESTOR]
    return [DONE] + list(nearest)


CALLS = {
    0: answer_begins,
    1: answer_law,
    2: answer_person,
    3: answer_dies,
    4: answer_marry,
    5: answer_part,
    6: answer_renounce,
    7: answer_gift,
    8: answer_by_law,
    9: answer_shares,
    10: answer_kept,
    11: answer_ends,
    12: answer_related,
}


def answers(calls):
    land = Land()
    answered = []
    at = 0
    while at < len(calls):
        start = at + 2
        end = start + calls[at + 1]
        answer_call = CALLS[calls[at]]
        answer = answer_call(land, calls[start:end])
        answered.append(len(answer))
        answered.extend(answer)
        # No call has lists, so behind its numbers stands a single 0.
        at = end + 1
    return answered
