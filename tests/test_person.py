import unittest

from heirshares.family import Family
from told import GREATEST, dies, first_numbers, last_number, marry, person, persons


class PersonTest(unittest.TestCase):
    def test_numbers_go_up_from_one(self):
        calls = [person(), person(), person(1, 2), person(2, 1), person(3, 0), person(0, 3)]
        self.assertEqual(first_numbers(*calls), [1, 2, 3, 4, 5, 6])

    def test_sixteen_and_the_seventeenth(self):
        self.assertEqual(first_numbers(*persons(18)), list(range(1, 17)) + [-5, -5])

    def test_the_sixteenth_may_have_the_fifteenth_as_a_parent(self):
        self.assertEqual(last_number(*persons(15), person(15, 1)), 16)

    def test_a_parent_is_told_earlier(self):
        self.assertEqual(first_numbers(person(1, 0), person(0, 1)), [-2, -2])
        for one, other in [(3, 0), (0, 3), (3, 1), (1, 3), (3, 4), (GREATEST, 0), (0, GREATEST), (1, GREATEST)]:
            with self.subTest(one=one, other=other):
                self.assertEqual(last_number(*persons(2), person(one, other)), -2)

    def test_both_parents_the_same(self):
        self.assertEqual(first_numbers(person(), person(1, 1), person(2, 2), person(0, 0)), [1, -2, -2, 2])
        self.assertEqual(first_numbers(person(GREATEST, GREATEST)), [-2])

    def test_no_such_parent_counts_before_too_many(self):
        calls = [person(17, 0), person(0, 17), person(1, 1), person(16, 16), person(1, GREATEST), person(1, 16)]
        self.assertEqual(first_numbers(*persons(16), *calls)[16:], [-2, -2, -2, -2, -2, -5])

    def test_a_refused_person_takes_no_number(self):
        self.assertEqual(first_numbers(person(5, 0), person(), person(1, 1), person(), dies(3)), [-2, 1, -2, 2, -2])

    def test_the_seventeenth_is_nobody(self):
        self.assertEqual(first_numbers(*persons(17), dies(16), dies(17), person(17, 0))[16:], [-5, 0, -2, -2])

    def test_parents_may_be_dead_or_unmarried_or_kin(self):
        calls = [person(), dies(1, 0), person(1, 0), person(1, 2), person(), marry(2, 4), person(2, 3)]
        self.assertEqual(first_numbers(*calls), [1, 0, 2, 3, 4, 0, 5])

    def test_parents_are_kept_as_told(self):
        family = Family()
        for one, other in [(0, 0), (0, 0), (1, 2), (0, 3), (3, 0), (9, 0)]:
            family.add_person(one, other)
        self.assertEqual([someone.parents for someone in family.persons], [[], [], [1, 2], [3], [3]])


if __name__ == "__main__":
    unittest.main()
