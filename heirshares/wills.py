"""The gifts of all wills."""

from heirshares.family import NOBODY
from heirshares.parts import ALL, NOTHING, is_more, may_be_told, total
from heirshares.replies import BAD_NUMBER, MORE_THAN_ALL, NO_ROOM, NO_SUCH_PERSON

MOST_GIFTS = 10


class Gift:
    def __init__(self, giver, whom, instead, portion):
        self.giver = giver
        self.whom = whom
        self.instead = instead
        self.portion = portion

    def names_persons_of(self, family):
        if not family.knows(self.giver) or not family.knows(self.whom):
            return False
        return self.instead == NOBODY or family.knows(self.instead)

    def who_takes(self, family):
        for number in (self.whom, self.instead):
            if family.may_take(number, self.giver):
                return number
        return NOBODY


class Wills:
    def __init__(self):
        self.gifts = []

    def will_of(self, giver):
        return [gift for gift in self.gifts if gift.giver == giver]

    def add_gift(self, family, gift):
        if not gift.names_persons_of(family):
            return NO_SUCH_PERSON
        if not may_be_told(gift.portion) or not is_more(gift.portion, NOTHING):
            return BAD_NUMBER
        if len(self.gifts) == MOST_GIFTS:
            return NO_ROOM
        # Gifts that will not be given count here too: all of one will together are no more than all.
        if is_more(total([each.portion for each in self.will_of(gift.giver) + [gift]]), ALL):
            return MORE_THAN_ALL
        self.gifts.append(gift)
        return len(self.gifts)
