"""All short lines out of a few calls, against answers drawn from the calls that were taken before."""

import itertools
import unittest

from told import begins, dies, first_numbers, law, marry, part, person, persons, renounce

BAD_LAW = law(1, 2, 1)
CALLS = [
    begins(), law(), BAD_LAW, person(), person(1, 2), person(1, 1), dies(1, 3), dies(2, 100000), dies(3, 0),
    marry(1, 2), marry(2, 3), marry(1, 1), part(1), part(2), renounce(1, 2), renounce(2, 1), renounce(3, 1),
]


class History:
    """Keeps nothing but the calls that were not refused, since the line began or begins was called."""

    def __init__(self):
        self.taken = []

    def numbers_of(self, kind):
        return [tuple(one_call[2:-1]) for one_call in self.taken if one_call[0] == kind]

    def is_person(self, who):
        return 0 < who <= len(self.numbers_of(2))

    def has_died(self, who):
        return who in [dead for dead, day in self.numbers_of(3)]

    def spouse(self, who):
        spouse = None
        for one_call in self.taken:
            if one_call[0] == 4 and who in one_call[2:4]:
                spouse = one_call[2] + one_call[3] - who
            if one_call[0] == 5 and one_call[2] in (who, spouse):
                spouse = None
        return spouse

    def refusal(self, kind, numbers):
        if kind == 1:
            return -1 if numbers == BAD_LAW[2:-1] else None
        if kind == 2:
            if any(parent != 0 and not self.is_person(parent) for parent in numbers):
                return -2
            if numbers[0] == numbers[1] != 0:
                return -2
            return -5 if len(self.numbers_of(2)) >= 16 else None
        if not self.is_person(numbers[0]):
            return -2
        return [self.refused_death, self.refused_marriage, self.refused_part, self.refused_renouncing][kind - 3](
            *numbers)

    def refused_death(self, who, day):
        if day > 99999:
            return -1
        return -4 if self.has_died(who) else None

    def refused_marriage(self, one, other):
        if not self.is_person(other) or one == other:
            return -2
        if any(self.spouse(who) or self.has_died(who) for who in (one, other)):
            return -4
        return None

    def refused_part(self, who):
        spouse = self.spouse(who)
        return -4 if spouse is None or self.has_died(who) or self.has_died(spouse) else None

    def refused_renouncing(self, who, whose):
        if not self.is_person(whose) or who == whose:
            return -2
        return -3 if (who, whose) in self.numbers_of(6) else None

    def answer(self, one_call):
        if one_call[0] == 0:
            self.taken = []
            return 0
        refusal = self.refusal(one_call[0], one_call[2:-1])
        if refusal is not None:
            return refusal
        self.taken.append(one_call)
        return len(self.numbers_of(2)) if one_call[0] == 2 else 0


class HistoriesTest(unittest.TestCase):
    def check(self, calls):
        history = History()
        self.assertEqual(first_numbers(*calls), [history.answer(one_call) for one_call in calls], calls)

    def test_from_nobody(self):
        for calls in itertools.product(CALLS, repeat=3):
            self.check(list(calls))

    def test_from_three_persons(self):
        for calls in itertools.product(CALLS, repeat=3):
            self.check(persons(3) + list(calls))

    def test_from_a_couple_and_one_more(self):
        for calls in itertools.product(CALLS, repeat=3):
            self.check(persons(3) + [marry(2, 1)] + list(calls))

    def test_from_sixteen_with_a_couple(self):
        for calls in itertools.product(CALLS, repeat=2):
            self.check(persons(16) + [marry(1, 2)] + list(calls))


if __name__ == "__main__":
    unittest.main()
