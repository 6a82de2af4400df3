"""Calls as lists of whole numbers, and their answers, for the tests."""

from heirshares.land import answers

GREATEST = 4294967295
FIVE_PARTS = (1, 4, 1, 2, 3, 4, 1, 1, 1, 1)


def call(number, *numbers):
    return [number, len(numbers), *numbers, 0]


def begins():
    return call(0)


def law(steps=1, above=1, below=2, parts=FIVE_PARTS):
    return call(1, steps, above, below, *parts)


def person(one=0, other=0):
    return call(2, one, other)


def dies(who, day=0):
    return call(3, who, day)


def marry(one, other):
    return call(4, one, other)


def part(who):
    return call(5, who)


def renounce(who, whose):
    return call(6, who, whose)


def gift(whose, whom, instead=0, above=1, below=2):
    return call(7, whose, whom, instead, above, below)


def by_law(who):
    return call(8, who)


def shares(who):
    return call(9, who)


def kept(who):
    return call(10, who)


def ends(who, day=99999):
    return call(11, who, day)


def related(one, other):
    return call(12, one, other)


def persons(count):
    return [person() for number in range(count)]


def line(calls):
    return [number for one_call in calls for number in one_call]


def split(answered):
    """The answers, one list for each call."""
    each = []
    at = 0
    while at < len(answered):
        end = at + 1 + answered[at]
        assert end <= len(answered), answered
        each.append(answered[at + 1:end])
        at = end
    return each


def each_answer(*calls):
    answered = split(answers(line(calls)))
    assert len(answered) == len(calls), answered
    return answered


def first_numbers(*calls):
    """What each of the calls answers; these calls all answer one number."""
    answered = each_answer(*calls)
    assert all(len(answer) == 1 for answer in answered), answered
    return [answer[0] for answer in answered]


def last_number(*calls):
    return first_numbers(*calls)[-1]


def last_answer(*calls):
    return each_answer(*calls)[-1]


def rows(answer):
    """The persons with their shares, as triples."""
    assert len(answer) == 1 + 3 * answer[0], answer
    return [tuple(answer[at:at + 3]) for at in range(1, len(answer), 3)]


def last_rows(*calls):
    return rows(last_answer(*calls))
