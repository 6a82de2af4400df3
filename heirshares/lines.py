"""The persons' lines, as they stand towards one dead one's estate, and what is given to them."""

from heirshares.law import CLASSES
from heirshares.parts import add_in_equal_parts


class Lines:
    """live_above: for each class, as keys, the persons above whom, so many generations, something is live."""

    def __init__(self, family, law, dead):
        self.family = family
        self.law = law
        self.dead = dead
        self.live_above = [self.live_lines()]
        while len(self.live_above) < CLASSES:
            self.live_above.append(self.one_generation_on(self.live_above[-1]))

    def live_lines(self):
        live = {}
        # Children are told behind their parents, so on the way back to 1 a child's line is known when it's asked for.
        for number in reversed(self.family.all_numbers()):
            if self.family.may_take(number, self.dead) or len(self.stepping_in(number, live)) > 0:
                live[number] = True
        return live

    def stepping_in(self, number, live):
        """The children whose lines have what would have been a person's."""
        if self.law.steps_in == 0 and (number, self.dead) in self.family.renounced:
            return []
        return [child for child in self.family.children_of(number) if child in live]

    def parents_among(self, number, live):
        return [parent for parent in self.family.numbered(number).parents if parent in live]

    def one_generation_on(self, live):
        farther = {}
        for number in self.family.all_numbers():
            if len(self.parents_among(number, live)) > 0:
                farther[number] = True
        return farther

    def class_that_takes(self):
        """The class's number, or None."""
        for generations in range(CLASSES):
            if self.dead in self.live_above[generations]:
                return generations
        return None

    def give_above(self, generations, amount):
        """What each person has of an amount that is given above the dead one."""
        amounts = {self.dead: amount}
        for live in reversed(self.live_above[:generations]):
            higher = {}
            for number in amounts:
                add_in_equal_parts(higher, self.parents_among(number, live), amounts[number])
            amounts = higher
        return self.give_to_lines(amounts)

    def give_to_lines(self, amounts):
        waiting = dict(amounts)
        taken = {}
        # Children are told behind their parents, so all that comes to somebody has come before that one's turn.
        for number in self.family.all_numbers():
            if number in waiting and self.family.may_take(number, self.dead):
                taken[number] = waiting[number]
            elif number in waiting:
                add_in_equal_parts(waiting, self.stepping_in(number, self.live_above[0]), waiting[number])
        return taken
