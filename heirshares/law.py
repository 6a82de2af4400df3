"""What a land's law says."""

from heirshares.parts import may_be_told

CLASSES = 5

STEPS_IN_AT_FIRST = 1
KEPT_PART_AT_FIRST = (1, 2)
SPOUSE_PARTS_AT_FIRST = ((1, 4), (1, 2), (3, 4), (1, 1), (1, 1))


class Law:
    """Fractions are kept as they were told, as pairs of above and below."""

    def __init__(self, steps_in, kept_part, spouse_parts):
        self.steps_in = steps_in
        self.kept_part = kept_part
        self.spouse_parts = spouse_parts


def law_at_first():
    return Law(STEPS_IN_AT_FIRST, KEPT_PART_AT_FIRST, list(SPOUSE_PARTS_AT_FIRST))


def law_may_say(kept_part, spouse_parts):
    if len(spouse_parts) != CLASSES or not may_be_told(kept_part):
        return False
    return all([may_be_told(fraction) for fraction in spouse_parts])
