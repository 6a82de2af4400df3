"""Who descends from whom."""


def generations_up(family, number):
    """The fewest generations up to each one whom a person is or descends from."""
    generations = {number: 0}
    # Parents are told earlier than their children, so on the way back to 1 each one's count is settled in time.
    for descendant in reversed(family.all_numbers()):
        if descendant in generations:
            for parent in family.numbered(descendant).parents:
                through_this = generations[descendant] + 1
                generations[parent] = min(through_this, generations.get(parent, through_this))
    return generations


def nearest_ancestor(family, one, other):
    """The ancestor, and the generations up to that one from the first and from the second; or None."""
    from_one = generations_up(family, one)
    from_other = generations_up(family, other)
    common = [number for number in from_one if number in from_other]
    if len(common) == 0:
        return None
    nearest = min(common, key=lambda number: (from_one[number] + from_other[number], from_one[number], number))
    return (nearest, from_one[nearest], from_other[nearest])


def is_close(family, number, dead):
    """Whether somebody is a descendant, a parent or the spouse of a dead one."""
    person = family.numbered(dead)
    if number == person.spouse or number in person.parents:
        return True
    return dead in generations_up(family, number)
