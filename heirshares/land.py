"""The calls on one land, read from a list of whole numbers, and their answers."""

from heirshares.family import Family
from heirshares.law import Law, law_at_first, law_may_say
from heirshares.replies import BAD_NUMBER, DONE


class Land:
    def __init__(self):
        self.begin()

    def begin(self):
        self.law = law_at_first()
        self.family = Family()


def answer_begins(land, numbers):
    land.begin()
    return [DONE]


def pairs(numbers):
    return [(numbers[at], numbers[at + 1]) for at in range(0, len(numbers), 2)]


def answer_law(land, numbers):
    kept_part = (numbers[1], numbers[2])
    spouse_parts = pairs(numbers[3:])
    if not law_may_say(kept_part, spouse_parts):
        return [BAD_NUMBER]
    land.law = Law(numbers[0], kept_part, spouse_parts)
    return [DONE]


def answer_person(land, numbers):
    return [land.family.add_person(numbers[0], numbers[1])]


def answer_dies(land, numbers):
    return [land.family.let_die(numbers[0], numbers[1])]


def answer_marry(land, numbers):
    return [land.family.marry(numbers[0], numbers[1])]


def answer_part(land, numbers):
    return [land.family.part(numbers[0])]


def answer_renounce(land, numbers):
    return [land.family.renounce(numbers[0], numbers[1])]


CALLS = {
    0: answer_begins,
    1: answer_law,
    2: answer_person,
    3: answer_dies,
    4: answer_marry,
    5: answer_part,
    6: answer_renounce,
}


def answers(calls):
    land = Land()
    answered = []
    at = 0
    while at < len(calls):
        start = at + 2
        end = start + calls[at + 1]
        answer_call = CALLS[calls[at]]
        answer = answer_call(land, calls[start:end])
        answered.append(len(answer))
        answered.extend(answer)
        # No call has lists, so behind its numbers stands a single 0.
        at = end + 1
    return answered
