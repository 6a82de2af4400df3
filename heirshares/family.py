"""The persons of a land, and what has befallen them."""

from heirshares.replies import BAD_NUMBER, DONE, NO_ROOM, NO_SUCH_PERSON, NOT_AS_THINGS_STAND, RENOUNCED_ALREADY

NOBODY = 0
MOST_PERSONS = 16
LAST_DAY = 99999


class Person:
    def __init__(self, parents):
        self.parents = parents
        self.day_of_death = None
        self.spouse = NOBODY

    def has_died(self):
        return self.day_of_death is not None

    def has_died_by(self, day):
        return self.has_died() and self.day_of_death <= day

    def is_married(self):
        # A widowed one is married still: only parting ends a marriage, and after a death nobody may part.
        return self.spouse != NOBODY


class Family:
    def __init__(self):
        self.persons = []
        self.renounced = {}

    def knows(self, number):
        return 1 <= number <= len(self.persons)

    def knows_two(self, one, other):
        return self.knows(one) and self.knows(other) and one != other

    def numbered(self, number):
        # Persons are numbered from 1, and 0 is nobody.
        return self.persons[number - 1]

    def all_numbers(self):
        return list(range(1, len(self.persons) + 1))

    def children_of(self, number):
        return [child for child in self.all_numbers() if number in self.numbered(child).parents]

    def dead_by(self, day):
        """Those who have died up to and with a day, in the order of days, then of persons."""
        dead = [number for number in self.all_numbers() if self.numbered(number).has_died_by(day)]
        return sorted(dead, key=lambda number: (self.numbered(number).day_of_death, number))

    def may_take(self, number, dead):
        if number == NOBODY or number == dead or (number, dead) in self.renounced:
            return False
        return not self.numbered(number).has_died_by(self.numbered(dead).day_of_death)

    def may_be_parents(self, one, other):
        if one == other:
            return one == NOBODY
        return all([number == NOBODY or self.knows(number) for number in (one, other)])

    def add_person(self, one, other):
        if not self.may_be_parents(one, other):
            return NO_SUCH_PERSON
        if len(self.persons) == MOST_PERSONS:
            return NO_ROOM
        self.persons.append(Person([number for number in (one, other) if number != NOBODY]))
        return len(self.persons)

    def let_die(self, number, day):
        if not self.knows(number):
            return NO_SUCH_PERSON
        if day > LAST_DAY:
            return BAD_NUMBER
        person = self.numbered(number)
        if person.has_died():
            return NOT_AS_THINGS_STAND
        person.day_of_death = day
        return DONE

    def marry(self, one, other):
        if not self.knows_two(one, other):
            return NO_SUCH_PERSON
        first = self.numbered(one)
        second = self.numbered(other)
        if first.is_married() or second.is_married() or first.has_died() or second.has_died():
            return NOT_AS_THINGS_STAND
        first.spouse = other
        second.spouse = one
        return DONE

    def part(self, number):
        if not self.knows(number):
            return NO_SUCH_PERSON
        person = self.numbered(number)
        if not person.is_married():
            return NOT_AS_THINGS_STAND
        spouse = self.numbered(person.spouse)
        if person.has_died() or spouse.has_died():
            return NOT_AS_THINGS_STAND
        person.spouse = NOBODY
        spouse.spouse = NOBODY
        return DONE

    def renounce(self, number, whose):
        if not self.knows_two(number, whose):
            return NO_SUCH_PERSON
        if (number, whose) in self.renounced:
            return RENOUNCED_ALREADY
        self.renounced[(number, whose)] = True
        return DONE
