"""Many lines of calls, against answers drawn from the document's words, one by one, by recursion."""

import random
import unittest
from fractions import Fraction

from told import GREATEST, begins, by_law, dies, each_answer, ends, gift, kept, law, marry, part, person
from told import related, renounce, shares

DAYS = [0, 1, 2, 3, 4, 5, 99998, 99999]


class Words:
    def __init__(self):
        self.begin()

    def begin(self):
        self.steps, self.cannot = 1, Fraction(1, 2)
        self.spouse_parts = [Fraction(1, 4), Fraction(1, 2), Fraction(3, 4), Fraction(1), Fraction(1)]
        self.parents, self.day, self.spouse, self.renounced, self.gifts = {}, {}, {}, set(), []

    # What the words say.

    def children(self, who):
        return [child for child in self.parents if who in self.parents[child]]

    def descends(self, who, ancestor):
        return any(parent == ancestor or self.descends(parent, ancestor) for parent in self.parents[who])

    def may_take(self, who, dead):
        died = who in self.day and self.day[who] <= self.day[dead]
        return who in self.parents and who != dead and not died and (who, dead) not in self.renounced

    def is_open(self, who, dead):
        return not ((who, dead) in self.renounced and self.steps == 0)

    def is_live(self, who, dead):
        if self.may_take(who, dead):
            return True
        return self.is_open(who, dead) and any(self.is_live(child, dead) for child in self.children(who))

    def is_live_above(self, who, dead, generations):
        if generations == 0:
            return self.is_live(who, dead)
        return any(self.is_live_above(parent, dead, generations - 1) for parent in self.parents[who])

    def give_line(self, who, dead, amount, to):
        if self.may_take(who, dead):
            to[who] = to.get(who, 0) + amount
            return
        live = [child for child in self.children(who) if self.is_live(child, dead)]
        for child in live:
            self.give_line(child, dead, amount / len(live), to)

    def give_above(self, who, dead, generations, amount, to):
        if generations == 0:
            self.give_line(who, dead, amount, to)
            return
        live = [parent for parent in self.parents[who] if self.is_live_above(parent, dead, generations - 1)]
        for parent in live:
            self.give_above(parent, dead, generations - 1, amount / len(live), to)

    def by_law(self, dead):
        classes = [generations for generations in range(5) if self.is_live_above(dead, dead, generations)]
        spouse = self.spouse.get(dead, 0)
        to = {}
        rest = Fraction(1)
        if self.may_take(spouse, dead):
            to[spouse] = self.spouse_parts[classes[0]] if classes else Fraction(1)
            rest -= to[spouse]
        if classes:
            self.give_above(dead, dead, classes[0], rest, to)
        return {who: share for who, share in to.items() if share > 0}

    def wished(self, dead):
        lawful = self.by_law(dead)
        to = {}
        for whose, whom, instead, portion in self.gifts:
            takers = [who for who in (whom, instead) if whose == dead and self.may_take(who, dead)]
            if takers:
                to[takers[0]] = to.get(takers[0], 0) + portion
        given = sum(to.values())
        if not lawful:
            return {who: portion / given for who, portion in to.items()}
        for who, share in lawful.items():
            to[who] = to.get(who, 0) + share * (1 - given)
        return to

    def kept(self, dead):
        close = [who for who in self.parents if self.descends(who, dead)]
        close += self.parents[dead] + [self.spouse.get(dead, 0)]
        return {who: share * self.cannot for who, share in self.by_law(dead).items() if who in close}

    def shares(self, dead):
        would, floor = self.wished(dead), self.kept(dead)
        has, missing = {}, 0
        over = {who: would[who] - floor.get(who, 0) for who in would if would[who] > floor.get(who, 0)}
        for who in would:
            if who not in over:
                has[who] = floor.get(who, Fraction(0))
                missing += has[who] - would[who]
        for who in over:
            has[who] = would[who] - missing * over[who] / sum(over.values())
        return {who: share for who, share in has.items() if share > 0}

    def ends(self, who, day):
        if who not in self.day or self.day[who] > day:
            return {who: Fraction(1)}
        has = self.shares(who) or {0: Fraction(1)}
        later = sorted((self.day[dead], dead) for dead in self.day if self.day[who] < self.day[dead] <= day)
        for on, dead in later:
            passing = has.pop(dead, None)
            for taker, share in (self.shares(dead) or {0: Fraction(1)}).items() if passing else ():
                has[taker] = has.get(taker, 0) + passing * share
        return has

    def paths_up(self, who):
        """Every way up: where it ends, and its generations."""
        ways = [(who, 0)]
        for parent in self.parents[who]:
            ways += [(ancestor, generations + 1) for ancestor, generations in self.paths_up(parent)]
        return ways

    def related(self, one, other):
        return min([(up + down, up, ancestor, down) for ancestor, up in set(self.paths_up(one))
                    for same, down in set(self.paths_up(other)) if same == ancestor], default=None)

    # The calls, each with its refusals in the order in which they're told.

    def answer_begins(self):
        self.begin()
        return [0]

    def is_fraction(self, above, below):
        return 1 <= below <= 100 and above <= below

    def answer_law(self, steps, above, below, *parts):
        told = [(above, below)] + list(zip(parts[::2], parts[1::2]))
        if len(told) != 6 or not all(self.is_fraction(*fraction) for fraction in told):
            return [-1]
        self.steps = steps
        self.cannot, *self.spouse_parts = [Fraction(*fraction) for fraction in told]
        return [0]

    def answer_person(self, one, other):
        told = [parent for parent in (one, other) if parent]
        if any(parent not in self.parents for parent in told) or len(told) != len(set(told)):
            return [-2]
        if len(self.parents) == 16:
            return [-5]
        self.parents[len(self.parents) + 1] = told
        return [len(self.parents)]

    def answer_dies(self, who, day):
        if who not in self.parents:
            return [-2]
        if day > 99999:
            return [-1]
        if who in self.day:
            return [-4]
        self.day[who] = day
        return [0]

    def answer_marry(self, one, other):
        if one not in self.parents or other not in self.parents or one == other:
            return [-2]
        if any(who in self.spouse or who in self.day for who in (one, other)):
            return [-4]
        self.spouse.update({one: other, other: one})
        return [0]

    def answer_part(self, who):
        if who not in self.parents:
            return [-2]
        if who not in self.spouse or who in self.day or self.spouse[who] in self.day:
            return [-4]
        del self.spouse[self.spouse.pop(who)]
        return [0]

    def answer_renounce(self, who, whose):
        if who not in self.parents or whose not in self.parents or who == whose:
            return [-2]
        if (who, whose) in self.renounced:
            return [-3]
        self.renounced.add((who, whose))
        return [0]

    def answer_gift(self, whose, whom, instead, above, below):
        if whose not in self.parents or whom not in self.parents or instead not in [0, *self.parents]:
            return [-2]
        if not self.is_fraction(above, below) or above == 0:
            return [-1]
        if len(self.gifts) == 10:
            return [-5]
        new = (whose, whom, instead, Fraction(above, below))
        if sum(one_gift[3] for one_gift in self.gifts + [new] if one_gift[0] == whose) > 1:
            return [-6]
        self.gifts.append(new)
        return [len(self.gifts)]

    def tell(self, has):
        answer = [len(has)]
        for who in sorted(has, key=lambda who: who or 17):
            answer += [who, has[who].numerator, has[who].denominator]
        return answer

    def answer_estate(self, who, has_of):
        if who not in self.parents:
            return [-2]
        return self.tell(has_of(who)) if who in self.day else [-4]

    def answer_ends(self, who, day):
        if who not in self.parents:
            return [-2]
        return [-1] if day > 99999 else self.tell(self.ends(who, day))

    def answer_related(self, one, other):
        if one not in self.parents or other not in self.parents:
            return [-2]
        nearest = self.related(one, other)
        return [0, nearest[2], nearest[1], nearest[3]] if nearest else [-6]

    def answer(self, one_call):
        answers = [
            self.answer_begins, self.answer_law, self.answer_person, self.answer_dies, self.answer_marry,
            self.answer_part, self.answer_renounce, self.answer_gift,
            lambda who: self.answer_estate(who, self.by_law), lambda who: self.answer_estate(who, self.shares),
            lambda who: self.answer_estate(who, self.kept), self.answer_ends, self.answer_related,
        ]
        return answers[one_call[0]](*one_call[2:-1])


class Teller:
    """Tells lines of calls, most of them with some sense, the same for the same number."""

    def __init__(self, number):
        self.dice = random.Random(number)
        self.count = self.dice.choice([2, 3, 5, 8, 12, 16, 16, 16])
        self.reach = self.dice.choice([2, 3, 5, 16])
        self.parent_counts = self.dice.choice([[0, 1, 1, 2, 2, 2], [1], [1, 1, 2]])
        self.old_die_first = self.chance(60)

    def chance(self, in_hundred):
        return self.dice.randrange(100) < in_hundred

    def who(self):
        if self.chance(3):
            return self.dice.choice([0, self.count + 1, 17, GREATEST])
        return self.dice.randrange(1, self.count + 1)

    def fraction(self):
        if self.chance(5):
            return self.dice.choice([(0, 0), (1, 0), (2, 1), (1, 101), (101, 101), (GREATEST, 100), (1, GREATEST)])
        below = self.dice.choice([1, 2, 2, 3, 4, 6, 10, 97, 100])
        return (self.dice.randrange(0, below + 1), below)

    def day(self):
        return self.dice.choice(DAYS + DAYS + [100000])

    def law(self):
        parts = [number for each in range(6 if self.chance(3) else 5) for number in self.fraction()]
        return law(self.dice.randrange(2), *self.fraction(), parts)

    def persons(self):
        told = []
        for number in range(1, self.count + 1):
            near = list(range(max(1, number - self.reach), number))
            parents = self.dice.sample(near, min(len(near), self.dice.choice(self.parent_counts))) + [0, 0]
            told.append(person(*self.dice.sample(parents[:2], 2)))
        return told

    def death(self):
        who = self.who()
        if self.old_die_first and self.chance(90):
            return dies(who, min(who // 3, 5))
        return dies(who, self.day())

    def change(self):
        changes = [
            (25, self.death), (15, lambda: marry(self.who(), self.who())),
            (3, lambda: part(self.who())), (20, lambda: renounce(self.who(), self.who())),
            (25, lambda: gift(self.who(), self.who(), self.dice.choice([0, self.who()]), *self.fraction())),
            (10, self.law), (1, lambda: person(self.who(), 0)),
        ]
        weights = [weight for weight, change in changes]
        return self.dice.choices([change for weight, change in changes], weights)[0]()

    def question(self):
        asks = [lambda: by_law(self.who()), lambda: shares(self.who()), lambda: kept(self.who()),
                lambda: ends(self.who(), self.day()), lambda: related(self.who(), self.who())]
        return self.dice.choice(asks)()

    def line(self):
        calls = self.persons() + [self.change() for each in range(self.dice.choice([5, 15, 30]))]
        if self.chance(50):
            left = self.dice.sample(range(1, self.count + 1), 2)
            calls += [dies(who, min(who // 3, 5)) for who in range(1, self.count + 1) if who not in left]
        if self.chance(5):
            calls += [begins()] + self.persons()
        while len(calls) < 99:
            calls.append(self.change() if self.chance(10) else self.question())
        return calls[:99] + [begins()]


class WordsTest(unittest.TestCase):
    def test_many_lines(self):
        for number in range(400):
            calls = Teller(number).line()
            words = Words()
            expected = [words.answer(one_call) for one_call in calls]
            for one_call, answer, right in zip(calls, each_answer(*calls), expected):
                self.assertEqual(answer, right, (number, one_call))


if __name__ == "__main__":
    unittest.main()
