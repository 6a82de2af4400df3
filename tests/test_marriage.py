import unittest

from heirshares.family import Family
from told import GREATEST, dies, first_numbers, last_number, marry, part, person, persons

# Pairs that marry refuses where there are persons 1 to 3.
NO_SUCH_PAIRS = [
    (0, 0), (0, 1), (1, 0), (1, 1), (3, 3), (1, 4), (4, 1), (4, 4), (4, 5), (1, GREATEST), (GREATEST, 1),
    (GREATEST, GREATEST),
]


class MarryTest(unittest.TestCase):
    def test_either_order(self):
        self.assertEqual(first_numbers(*persons(4), marry(1, 2), marry(4, 3))[4:], [0, 0])

    def test_the_sixteenth(self):
        self.assertEqual(first_numbers(*persons(16), marry(16, 17), marry(17, 16), marry(16, 1))[16:], [-2, -2, 0])

    def test_kin_may_marry(self):
        self.assertEqual(first_numbers(person(), person(1, 0), marry(1, 2)), [1, 2, 0])

    def test_no_such_person_or_both_the_same(self):
        for one, other in NO_SUCH_PAIRS:
            with self.subTest(one=one, other=other):
                self.assertEqual(last_number(*persons(3), marry(one, other)), -2)

    def test_one_is_married(self):
        for one, other in [(1, 2), (2, 1), (1, 3), (3, 1), (2, 3), (3, 2), (1, 4), (5, 2)]:
            with self.subTest(one=one, other=other):
                self.assertEqual(last_number(*persons(5), marry(1, 2), marry(4, 5), marry(one, other)), -4)

    def test_one_has_died(self):
        for one, other in [(1, 2), (2, 1), (1, 3), (3, 1)]:
            with self.subTest(one=one, other=other):
                self.assertEqual(last_number(*persons(3), dies(1), dies(3), marry(one, other)), -4)

    def test_a_widowed_one_is_married_still(self):
        calls = persons(3) + [marry(1, 2), dies(1), marry(2, 3), marry(3, 2), marry(2, 1)]
        self.assertEqual(first_numbers(*calls)[3:], [0, 0, -4, -4, -4])

    def test_the_first_refusal_told_counts(self):
        calls = persons(3) + [marry(1, 2), dies(3), marry(1, 1), marry(3, 3), marry(1, 4), marry(0, 3), marry(2, 3)]
        self.assertEqual(first_numbers(*calls)[3:], [0, 0, -2, -2, -2, -2, -4])

    def test_a_refused_marriage_is_none(self):
        calls = persons(4) + [marry(1, 2), marry(1, 3), marry(3, 2), part(3), marry(3, 3), part(3), marry(3, 4)]
        self.assertEqual(first_numbers(*calls)[4:], [0, -4, -4, -4, -2, -4, 0])

    def test_a_refused_marriage_leaves_the_older_one(self):
        calls = persons(3) + [marry(1, 2), marry(2, 3), part(2), marry(1, 3)]
        self.assertEqual(first_numbers(*calls)[3:], [0, -4, 0, 0])

    def test_a_refused_marriage_to_a_dead_one_is_none(self):
        calls = persons(3) + [dies(1), marry(2, 1), marry(1, 2), part(2), marry(2, 3)]
        self.assertEqual(first_numbers(*calls)[3:], [0, -4, -4, -4, 0])


class PartTest(unittest.TestCase):
    def test_either_of_the_two(self):
        for who in [1, 2]:
            with self.subTest(who=who):
                self.assertEqual(first_numbers(*persons(2), marry(1, 2), part(who), part(1), part(2))[2:],
                                 [0, 0, -4, -4])

    def test_after_it_both_may_marry_anew(self):
        calls = persons(4) + [marry(1, 2), part(1), marry(1, 3), marry(4, 2), part(1), part(4), marry(2, 1)]
        self.assertEqual(first_numbers(*calls)[4:], [0] * 7)

    def test_other_marriages_stay(self):
        calls = persons(4) + [marry(1, 2), marry(3, 4), part(2), marry(3, 1), marry(4, 2), part(3)]
        self.assertEqual(first_numbers(*calls)[4:], [0, 0, 0, -4, -4, 0])

    def test_no_such_person(self):
        for who in [0, 3, 16, 17, GREATEST]:
            with self.subTest(who=who):
                self.assertEqual(last_number(*persons(2), marry(1, 2), part(who)), -2)

    def test_the_sixteenth(self):
        self.assertEqual(first_numbers(*persons(16), part(16), marry(15, 16), part(17), part(16))[16:], [-4, 0, -2, 0])

    def test_not_married(self):
        self.assertEqual(first_numbers(*persons(3), marry(1, 2), part(3))[3:], [0, -4])

    def test_not_married_and_died(self):
        self.assertEqual(first_numbers(person(), dies(1), part(1)), [1, 0, -4])

    def test_one_of_the_two_has_died(self):
        for dead in [1, 2]:
            with self.subTest(dead=dead):
                calls = persons(2) + [marry(1, 2), dies(dead), part(1), part(2)]
                self.assertEqual(first_numbers(*calls)[2:], [0, 0, -4, -4])

    def test_both_have_died(self):
        calls = persons(2) + [marry(1, 2), dies(1), dies(2), part(1), part(2)]
        self.assertEqual(first_numbers(*calls)[2:], [0, 0, 0, -4, -4])

    def test_a_refused_parting_leaves_them_married(self):
        family = Family()
        for number in range(3):
            family.add_person(0, 0)
        family.marry(1, 2)
        family.let_die(1, 4)
        self.assertEqual([family.part(number) for number in range(5)], [-2, -4, -4, -4, -2])
        self.assertEqual([someone.spouse for someone in family.persons], [2, 1, 0])


if __name__ == "__main__":
    unittest.main()
