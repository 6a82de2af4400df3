import unittest

from told import GREATEST, dies, first_numbers, last_number, marry, persons, renounce


class RenounceTest(unittest.TestCase):
    def test_each_of_two_the_others_estate(self):
        self.assertEqual(first_numbers(*persons(2), renounce(1, 2), renounce(2, 1))[2:], [0, 0])

    def test_one_of_several_estates_and_several_of_one(self):
        calls = [renounce(1, 2), renounce(1, 3), renounce(2, 3), renounce(3, 2)]
        self.assertEqual(first_numbers(*persons(3), *calls)[3:], [0, 0, 0, 0])

    def test_before_and_after_deaths(self):
        calls = [renounce(1, 2), dies(2), renounce(3, 2), dies(1), renounce(1, 3), marry(3, 4), renounce(4, 3)]
        self.assertEqual(first_numbers(*persons(4), *calls)[4:], [0] * 7)

    def test_already(self):
        calls = [renounce(1, 2), renounce(1, 2), renounce(2, 1), renounce(1, 2), renounce(2, 1), dies(2),
                 renounce(1, 2)]
        self.assertEqual(first_numbers(*persons(2), *calls)[2:], [0, -3, 0, -3, -3, 0, -3])

    def test_no_such_person_or_both_the_same(self):
        pairs = [(0, 0), (0, 1), (1, 0), (1, 1), (2, 2), (1, 3), (3, 1), (3, 3), (3, 4), (1, GREATEST), (GREATEST, 1),
                 (GREATEST, GREATEST)]
        for who, whose in pairs:
            with self.subTest(who=who, whose=whose):
                self.assertEqual(last_number(*persons(2), renounce(who, whose)), -2)

    def test_the_sixteenth(self):
        calls = [renounce(16, 17), renounce(17, 16), renounce(16, 1), renounce(1, 16), renounce(16, 1)]
        self.assertEqual(first_numbers(*persons(16), *calls)[16:], [-2, -2, 0, 0, -3])

    def test_a_refused_renouncing_is_none(self):
        calls = [renounce(1, 2), *persons(1), renounce(1, 2), *persons(1), renounce(1, 2), renounce(1, 1)]
        self.assertEqual(first_numbers(*calls), [-2, 1, -2, 2, 0, -2])

    def test_every_pair_of_sixteen(self):
        # A line holds 100 calls: one person a line renounces all the others' estates, twice.
        for who in range(1, 17):
            others = [whose for whose in range(1, 17) if whose != who]
            calls = persons(16) + [renounce(who, whose) for whose in others + others]
            with self.subTest(who=who):
                self.assertEqual(first_numbers(*calls)[16:], [0] * 15 + [-3] * 15)


if __name__ == "__main__":
    unittest.main()
