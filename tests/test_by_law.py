import unittest

from told import FIVE_PARTS, begins, by_law, dies, each_answer, gift, last_answer, last_rows, law, marry
from told import part, person, persons, renounce

FIVE_OTHERS = (1, 3, 1, 5, 1, 7, 1, 9, 1, 11)


def chain(generations):
    """Each one is the child of the one before; all but the first die, the last one behind the others."""
    calls = [person()] + [person(number, 0) for number in range(1, generations + 1)]
    return calls + [dies(number, 1) for number in range(2, generations + 1)] + [dies(generations + 1, 2)]


def chain_with_spouse(generations):
    calls = [person()] + [person(number, 0) for number in range(1, generations + 1)] + [person()]
    dead = generations + 1
    return calls + [marry(dead, dead + 1)] + [dies(number, 1) for number in range(2, dead)] + [dies(dead, 2)]


class ClassesTest(unittest.TestCase):
    def test_class_0(self):
        self.assertEqual(last_rows(person(), person(1, 0), person(0, 1), dies(1), by_law(1)), [(2, 1, 2), (3, 1, 2)])

    def test_class_0_with_a_spouse(self):
        calls = [person(), person(1, 0), person(0, 1), person(), marry(4, 1), dies(1), by_law(1)]
        self.assertEqual(last_rows(*calls), [(2, 3, 8), (3, 3, 8), (4, 1, 4)])

    def test_class_1_to_4_and_farther(self):
        for generations in range(1, 5):
            with self.subTest(generations=generations):
                self.assertEqual(last_rows(*chain(generations), by_law(generations + 1)), [(1, 1, 1)])
        for generations in range(5, 16):
            with self.subTest(generations=generations):
                self.assertEqual(last_answer(*chain(generations), by_law(generations + 1)), [0])

    def test_class_1_to_4_with_a_spouse(self):
        expected = {1: [(1, 1, 2), (3, 1, 2)], 2: [(1, 1, 4), (4, 3, 4)], 3: [(5, 1, 1)], 4: [(6, 1, 1)]}
        for generations in expected:
            with self.subTest(generations=generations):
                calls = chain_with_spouse(generations) + [by_law(generations + 1)]
                self.assertEqual(last_rows(*calls), expected[generations])

    def test_each_class_has_its_own_spouses_part(self):
        calls = [law(parts=FIVE_OTHERS), person(), person(1, 0), person(), marry(1, 3), dies(1), by_law(1)]
        self.assertEqual(last_rows(*calls), [(2, 2, 3), (3, 1, 3)])
        expected = {1: [(1, 4, 5), (3, 1, 5)], 2: [(1, 6, 7), (4, 1, 7)], 3: [(1, 8, 9), (5, 1, 9)],
                    4: [(1, 10, 11), (6, 1, 11)]}
        for generations in expected:
            with self.subTest(generations=generations):
                calls = chain_with_spouse(generations) + [law(parts=FIVE_OTHERS), by_law(generations + 1)]
                self.assertEqual(last_rows(*calls), expected[generations])

    def test_without_a_class_the_spouse_has_all(self):
        self.assertEqual(last_rows(*persons(2), marry(1, 2), dies(1), by_law(1)), [(2, 1, 1)])
        self.assertEqual(last_rows(*chain_with_spouse(5), by_law(6)), [(7, 1, 1)])
        calls = [law(parts=(0, 1) * 5)] + persons(2) + [marry(1, 2), dies(1), by_law(1)]
        self.assertEqual(last_rows(*calls), [(2, 1, 1)])

    def test_nobody(self):
        self.assertEqual(last_answer(person(), dies(1), by_law(1)), [0])
        self.assertEqual(last_answer(*persons(3), dies(1), by_law(1)), [0])
        self.assertEqual(each_answer(*persons(2), dies(1), dies(2), by_law(1), by_law(2))[4:], [[0], [0]])

    def test_the_nearer_class_leaves_nothing_to_the_farther(self):
        family = [person(), person(), person(1, 2), person(3, 0), person(1, 2), dies(3)]
        self.assertEqual(last_rows(*family, by_law(3)), [(4, 1, 1)])
        self.assertEqual(last_rows(*family, renounce(4, 3), by_law(3)), [(1, 1, 2), (2, 1, 2)])
        self.assertEqual(last_rows(person(), person(1, 0), person(2, 0), dies(3), by_law(3)), [(2, 1, 1)])

    def test_sixteen_persons(self):
        calls = [person()] + [person(1, 0)] * 15 + [dies(1), by_law(1)]
        self.assertEqual(last_rows(*calls), [(child, 1, 15) for child in range(2, 17)])
        calls = persons(2) + [person(1, 2)] * 14 + [marry(1, 2), dies(1), by_law(1)]
        self.assertEqual(last_rows(*calls), [(2, 1, 4)] + [(child, 3, 56) for child in range(3, 17)])


class LinesTest(unittest.TestCase):
    def test_children_of_a_dead_child_step_in(self):
        calls = [person(), person(1, 0), person(1, 0), person(2, 0), person(0, 2), dies(2, 1), dies(1, 2), by_law(1)]
        self.assertEqual(last_rows(*calls), [(3, 1, 2), (4, 1, 4), (5, 1, 4)])

    def test_children_of_a_living_child_do_not(self):
        calls = [person(), person(1, 0), person(2, 0), dies(1), by_law(1)]
        self.assertEqual(last_rows(*calls), [(2, 1, 1)])

    def test_a_dead_child_without_a_live_line(self):
        calls = [person(), person(1, 0), person(1, 0), person(2, 0), dies(2, 1), dies(4, 1), dies(1, 2), by_law(1)]
        self.assertEqual(last_rows(*calls), [(3, 1, 1)])

    def test_lines_of_lines(self):
        family = [person()] + [person(number, 0) for number in range(1, 16)]
        calls = family + [dies(number, 1) for number in range(2, 16)] + [dies(1, 2), by_law(1)]
        self.assertEqual(last_rows(*calls), [(16, 1, 1)])

    def test_the_day_before_the_day_itself_and_the_day_after(self):
        family = [person(), person(1, 0), person(2, 0), dies(1, 5)]
        self.assertEqual(last_rows(*family, dies(2, 4), by_law(1)), [(3, 1, 1)])
        self.assertEqual(last_rows(*family, dies(2, 5), by_law(1)), [(3, 1, 1)])
        self.assertEqual(last_rows(*family, dies(2, 6), by_law(1)), [(2, 1, 1)])

    def test_the_first_and_the_last_day(self):
        family = [person(), person(1, 0), person(2, 0)]
        self.assertEqual(last_rows(*family, dies(1, 0), dies(2, 0), by_law(1)), [(3, 1, 1)])
        self.assertEqual(last_rows(*family, dies(1, 0), dies(2, 1), by_law(1)), [(2, 1, 1)])
        self.assertEqual(last_rows(*family, dies(1, 99999), dies(2, 99999), by_law(1)), [(3, 1, 1)])
        self.assertEqual(last_rows(*family, dies(1, 99998), dies(2, 99999), by_law(1)), [(2, 1, 1)])

    def test_later_deaths_do_not_matter(self):
        calls = [person(), person(1, 0), person(1, 0), dies(2, 9), dies(1, 5), dies(3, 6), by_law(1)]
        self.assertEqual(last_rows(*calls), [(2, 1, 2), (3, 1, 2)])

    def test_brothers_and_sisters_have_a_dead_parents_half(self):
        calls = [*persons(2), person(1, 2), person(1, 2), person(2, 1), dies(1, 1), dies(3, 2), by_law(3)]
        self.assertEqual(last_rows(*calls), [(2, 1, 2), (4, 1, 4), (5, 1, 4)])

    def test_one_of_the_parents_lines_alone_is_live(self):
        calls = [*persons(2), person(1, 2), person(2, 0), dies(1, 1), dies(3, 2), by_law(3)]
        self.assertEqual(last_rows(*calls), [(2, 1, 1)])
        calls = [*persons(2), person(1, 2), person(2, 0), dies(1, 1), dies(2, 1), dies(3, 2), by_law(3)]
        self.assertEqual(last_rows(*calls), [(4, 1, 1)])

    def test_half_and_full_brothers_and_sisters(self):
        # 4 is of both parents, 5 of the first alone: 4 has 1 by 4 through the first, 1 by 2 through the second.
        calls = [*persons(2), person(1, 2), person(1, 2), person(1, 0), dies(1), dies(2), dies(3, 1), by_law(3)]
        self.assertEqual(last_rows(*calls), [(4, 3, 4), (5, 1, 4)])

    def test_cousins(self):
        family = [*persons(2), person(1, 2), person(1, 2), person(4, 0), person(3, 0), person(3, 0)]
        calls = family + [dies(number) for number in (1, 2, 3, 4)] + [dies(5, 1), by_law(5)]
        self.assertEqual(last_rows(*calls), [(6, 1, 2), (7, 1, 2)])

    def test_each_grandparents_side_has_its_half(self):
        # 1 and 2 are the first parent's parents, 3 and 4 the second's; of 3 and 4 only 4's line is live.
        family = [*persons(4), person(1, 2), person(3, 4), person(5, 6), person(4, 0)]
        calls = family + [dies(number) for number in (2, 3, 4, 5, 6)] + [dies(7, 1), by_law(7)]
        self.assertEqual(last_rows(*calls), [(1, 1, 2), (8, 1, 2)])
        calls = family + [dies(number) for number in (3, 4, 5, 6)] + [dies(7, 1), by_law(7)]
        self.assertEqual(last_rows(*calls), [(1, 1, 4), (2, 1, 4), (8, 1, 2)])

    def test_a_side_above_which_nothing_is_live_has_none(self):
        family = [*persons(4), person(1, 2), person(3, 4), person(5, 6)]
        calls = family + [dies(number) for number in (3, 4, 5, 6)] + [dies(7, 1), by_law(7)]
        self.assertEqual(last_rows(*calls), [(1, 1, 2), (2, 1, 2)])

    def test_a_side_of_which_nobody_is_told_has_none(self):
        # Above 4, one generation, 3 is live; above 5, one generation, nobody is told.
        calls = [*persons(3), person(3, 0), person(), person(4, 5), dies(4), dies(5), dies(6, 1), by_law(6)]
        self.assertEqual(last_rows(*calls), [(3, 1, 1)])


class SeveralWaysTest(unittest.TestCase):
    def test_a_grandchild_through_both_parents(self):
        calls = [person(), person(1, 0), person(1, 0), person(2, 3), person(2, 0), dies(2), dies(3), dies(1, 1),
                 by_law(1)]
        self.assertEqual(last_rows(*calls), [(4, 3, 4), (5, 1, 4)])

    def test_a_spouse_who_is_a_child(self):
        calls = [person(), person(1, 0), person(1, 0), marry(1, 2), dies(1), by_law(1)]
        self.assertEqual(last_rows(*calls), [(2, 5, 8), (3, 3, 8)])

    def test_a_spouse_who_is_a_brother_or_sister(self):
        calls = [person(), person(1, 0), person(1, 0), person(1, 0), marry(2, 3), dies(1), dies(2, 1), by_law(2)]
        self.assertEqual(last_rows(*calls), [(3, 3, 4), (4, 1, 4)])

    def test_an_ancestor_on_both_sides(self):
        # 1 is a grandparent through both parents, 2 through one alone.
        calls = [*persons(2), person(1, 2), person(1, 0), person(3, 4), dies(3), dies(4), dies(5, 1), by_law(5)]
        self.assertEqual(last_rows(*calls), [(1, 3, 4), (2, 1, 4)])

    def test_a_parent_who_is_also_a_child_of_the_other_parent(self):
        # 2 is 1's child, and 3 is theirs: 1's line, as 1 is dead, is 2 and 4.
        calls = [person(), person(1, 0), person(1, 2), person(1, 0), dies(1), dies(3, 1), by_law(3)]
        self.assertEqual(last_rows(*calls), [(2, 3, 4), (4, 1, 4)])


class RenouncingTest(unittest.TestCase):
    FAMILY = [person(), person(1, 0), person(1, 0), person(2, 0), person(2, 0)]

    def test_lines_step_in(self):
        calls = self.FAMILY + [renounce(2, 1), dies(1), by_law(1)]
        self.assertEqual(last_rows(*calls), [(3, 1, 2), (4, 1, 4), (5, 1, 4)])
        self.assertEqual(last_rows(law(1), *calls), [(3, 1, 2), (4, 1, 4), (5, 1, 4)])

    def test_lines_do_not_step_in(self):
        self.assertEqual(last_rows(law(0), *self.FAMILY, renounce(2, 1), dies(1), by_law(1)), [(3, 1, 1)])

    def test_the_law_that_was_told_last_counts(self):
        calls = self.FAMILY + [renounce(2, 1), dies(1), law(0), by_law(1), law(1), by_law(1), law(0, 2, 1), by_law(1)]
        answers = each_answer(*calls)
        self.assertEqual(answers[8], [1, 3, 1, 1])
        self.assertEqual(answers[10], [3, 3, 1, 2, 4, 1, 4, 5, 1, 4])
        self.assertEqual(answers[12], answers[10])

    def test_a_dead_one_who_had_not_renounced_is_stepped_in_for(self):
        calls = [law(0), *self.FAMILY, dies(2), dies(1, 1), by_law(1)]
        self.assertEqual(last_rows(*calls), [(3, 1, 2), (4, 1, 4), (5, 1, 4)])

    def test_a_dead_one_who_had_renounced(self):
        calls = self.FAMILY + [renounce(2, 1), dies(2), dies(1, 1), by_law(1)]
        self.assertEqual(last_rows(law(1), *calls), [(3, 1, 2), (4, 1, 4), (5, 1, 4)])
        self.assertEqual(last_rows(law(0), *calls), [(3, 1, 1)])

    def test_after_the_death(self):
        self.assertEqual(last_rows(*self.FAMILY, dies(1), renounce(3, 1), by_law(1)), [(2, 1, 1)])

    def test_another_estate(self):
        calls = self.FAMILY + [renounce(2, 3), renounce(1, 2), dies(1), by_law(1)]
        self.assertEqual(last_rows(*calls), [(2, 1, 2), (3, 1, 2)])

    def test_all_of_a_class(self):
        family = [person(), person(1, 0), person(2, 0), person(3, 0), renounce(3, 2), dies(2), by_law(2)]
        self.assertEqual(last_rows(law(1), *family), [(4, 1, 1)])
        self.assertEqual(last_rows(law(0), *family), [(1, 1, 1)])

    def test_a_parent_whose_lines_do_not_step_in(self):
        # 1 grandparent, 2 parent, 3 the dead one, 4 a sister, 5 an aunt.
        family = [person(), person(1, 0), person(2, 0), person(2, 0), person(1, 0), renounce(2, 3), dies(3, 1)]
        self.assertEqual(last_rows(law(1), *family, by_law(3)), [(4, 1, 1)])
        self.assertEqual(last_rows(law(0), *family, by_law(3)), [(1, 1, 1)])
        self.assertEqual(last_rows(law(0), *family, dies(1), by_law(3)), [(5, 1, 1)])
        self.assertEqual(last_answer(law(0), *family, dies(1), renounce(5, 3), by_law(3)), [0])

    def test_a_spouse(self):
        calls = [person(), person(1, 0), person(), marry(1, 3), renounce(3, 1), dies(1), by_law(1)]
        self.assertEqual(last_rows(*calls), [(2, 1, 1)])
        self.assertEqual(last_answer(*persons(2), marry(1, 2), renounce(2, 1), dies(1), by_law(1)), [0])


class SpouseTest(unittest.TestCase):
    FAMILY = [person(), person(1, 0), person(), marry(1, 3)]

    def test_who_has_parted_is_none(self):
        self.assertEqual(last_rows(*self.FAMILY, part(3), dies(1), by_law(1)), [(2, 1, 1)])

    def test_who_was_married_at_the_end_is_the_spouse(self):
        calls = self.FAMILY + [person(), part(1), marry(4, 1), dies(1), by_law(1)]
        self.assertEqual(last_rows(*calls), [(2, 3, 4), (4, 1, 4)])

    def test_who_died_before_on_the_day_or_behind_it(self):
        self.assertEqual(last_rows(*self.FAMILY, dies(3, 4), dies(1, 5), by_law(1)), [(2, 1, 1)])
        self.assertEqual(last_rows(*self.FAMILY, dies(3, 5), dies(1, 5), by_law(1)), [(2, 1, 1)])
        self.assertEqual(last_rows(*self.FAMILY, dies(3, 6), dies(1, 5), by_law(1)), [(2, 3, 4), (3, 1, 4)])

    def test_both_estates_of_a_couple(self):
        calls = persons(2) + [marry(1, 2), dies(2, 6), dies(1, 5), by_law(1), by_law(2)]
        self.assertEqual(each_answer(*calls)[5:], [[1, 2, 1, 1], [0]])

    def test_a_part_of_nothing(self):
        calls = [law(parts=(0, 7) + FIVE_PARTS[2:]), *self.FAMILY, dies(1), by_law(1)]
        self.assertEqual(last_rows(*calls), [(2, 1, 1)])

    def test_a_part_of_nothing_for_who_is_a_child_too(self):
        calls = [law(parts=(0, 1) * 5), person(), person(1, 0), person(1, 0), marry(1, 2), dies(1), by_law(1)]
        self.assertEqual(last_rows(*calls), [(2, 1, 2), (3, 1, 2)])

    def test_a_part_of_all(self):
        calls = [law(parts=(5, 5) + FIVE_PARTS[2:]), *self.FAMILY, dies(1), by_law(1)]
        self.assertEqual(last_rows(*calls), [(3, 1, 1)])

    def test_a_part_is_told_in_lowest_terms(self):
        calls = [law(parts=(40, 100) + FIVE_PARTS[2:]), *self.FAMILY, dies(1), by_law(1)]
        self.assertEqual(last_rows(*calls), [(2, 3, 5), (3, 2, 5)])

    def test_the_spouses_kin_are_not_kin(self):
        calls = [person(), person(), person(2, 0), marry(1, 2), dies(1), by_law(1)]
        self.assertEqual(last_rows(*calls), [(2, 1, 1)])


class OtherCallsTest(unittest.TestCase):
    def test_a_will_does_not_matter(self):
        calls = [person(), person(1, 0), person(), gift(1, 3, 0, 1, 1), dies(1), by_law(1)]
        self.assertEqual(last_rows(*calls), [(2, 1, 1)])

    def test_begins_brings_the_first_law_back(self):
        calls = [law(0, 1, 1, (0, 1) * 5), begins(), person(), person(1, 0), person(1, 0), person(2, 0), person(),
                 marry(1, 5), renounce(2, 1), dies(1), by_law(1)]
        self.assertEqual(last_rows(*calls), [(3, 3, 8), (4, 3, 8), (5, 1, 4)])


if __name__ == "__main__":
    unittest.main()
