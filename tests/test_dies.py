import unittest

from heirshares.family import Family
from told import GREATEST, dies, first_numbers, last_number, marry, part, person, persons


class DiesTest(unittest.TestCase):
    def test_days_from_first_to_last_and_above(self):
        for day, answer in [(0, 0), (1, 0), (50000, 0), (99998, 0), (99999, 0), (100000, -1), (GREATEST, -1)]:
            with self.subTest(day=day):
                self.assertEqual(first_numbers(person(), dies(1, day)), [1, answer])

    def test_no_such_person(self):
        for who in [0, 3, 16, 17, GREATEST]:
            with self.subTest(who=who):
                self.assertEqual(last_number(*persons(2), dies(who, 5)), -2)

    def test_the_sixteenth_dies(self):
        self.assertEqual(first_numbers(*persons(16), dies(16), dies(17))[16:], [0, -2])

    def test_nobody_dies_twice(self):
        calls = [dies(1, 9), dies(1, 9), dies(1, 8), dies(1, 10), dies(2, 9)]
        self.assertEqual(first_numbers(*persons(2), *calls)[2:], [0, -4, -4, -4, 0])

    def test_day_zero_is_a_death_too(self):
        self.assertEqual(first_numbers(person(), dies(1, 0), dies(1, 0)), [1, 0, -4])

    def test_the_first_refusal_told_counts(self):
        calls = [dies(2, 100000), dies(0, GREATEST), dies(1, 3), dies(1, 100000), dies(2, 3)]
        self.assertEqual(first_numbers(person(), *calls)[1:], [-2, -2, 0, -1, -2])

    def test_a_refused_death_is_none(self):
        calls = [dies(1, 100000), marry(1, 2), part(1), dies(1, 5)]
        self.assertEqual(first_numbers(*persons(2), *calls)[2:], [-1, 0, 0, 0])

    def test_the_day_is_kept_as_it_was_first_told(self):
        family = Family()
        family.add_person(0, 0)
        family.let_die(1, 100000)
        self.assertIsNone(family.numbered(1).day_of_death)
        family.let_die(1, 0)
        family.let_die(1, 7)
        self.assertEqual(family.numbered(1).day_of_death, 0)


if __name__ == "__main__":
    unittest.main()
