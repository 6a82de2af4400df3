import unittest

from heirshares.land import Land, answer_begins
from told import begins, dies, first_numbers, last_number, law, marry, part, person, persons, renounce


class BeginsTest(unittest.TestCase):
    def test_at_the_beginning_there_is_nobody(self):
        self.assertEqual(first_numbers(dies(1), part(1), person(1, 0), person()), [-2, -2, -2, 1])

    def test_first_last_and_twice(self):
        self.assertEqual(first_numbers(begins(), begins(), person(), begins()), [0, 0, 1, 0])

    def test_in_the_middle_persons_are_forgotten(self):
        calls = persons(16) + [person(), begins(), dies(1), person(1, 0), person(), person(1, 0)]
        self.assertEqual(first_numbers(*calls)[16:], [-5, 0, -2, -2, 1, 2])

    def test_in_the_middle_sixteen_may_come_again(self):
        calls = persons(16) + [begins()] + persons(17)
        self.assertEqual(first_numbers(*calls)[17:], list(range(1, 17)) + [-5])

    def test_in_the_middle_deaths_are_forgotten(self):
        calls = [person(), dies(1, 4), begins(), person(), dies(1, 3), dies(1, 3)]
        self.assertEqual(first_numbers(*calls), [1, 0, 0, 1, 0, -4])

    def test_in_the_middle_marriages_are_forgotten(self):
        calls = persons(2) + [marry(1, 2), begins()] + persons(2) + [part(1), marry(1, 2)]
        self.assertEqual(first_numbers(*calls)[-2:], [-4, 0])

    def test_in_the_middle_renouncing_is_forgotten(self):
        calls = persons(2) + [renounce(1, 2), begins()] + persons(2) + [renounce(1, 2)]
        self.assertEqual(last_number(*calls), 0)

    def test_law_is_answered_after_it_as_before(self):
        self.assertEqual(first_numbers(law(0, 0, 1), begins(), law(), law(1, 2, 1)), [0, 0, 0, -1])

    def test_what_begins_brings_back_is_as_new(self):
        land = Land()
        land.law.spouse_parts.clear()
        land.family.add_person(0, 0)
        self.assertEqual(answer_begins(land, []), [0])
        self.assertEqual(land.law.steps_in, 1)
        self.assertEqual(land.law.kept_part, (1, 2))
        self.assertEqual(land.law.spouse_parts, [(1, 4), (1, 2), (3, 4), (1, 1), (1, 1)])
        self.assertEqual(land.family.persons, [])
        self.assertEqual(land.family.renounced, {})


if __name__ == "__main__":
    unittest.main()
