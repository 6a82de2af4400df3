import unittest

from told import GREATEST, begins, dies, first_numbers, gift, last_number, last_rows, person, persons, renounce, shares

# A fraction, and whether a gift may be it.
FRACTIONS = [
    ((0, 1), False), ((1, 1), True), ((2, 1), False), ((GREATEST, 1), False),
    ((0, 0), False), ((1, 0), False), ((GREATEST, 0), False),
    ((0, 2), False), ((1, 2), True), ((2, 2), True), ((3, 2), False), ((2, 4), True),
    ((0, 100), False), ((1, 100), True), ((99, 100), True), ((100, 100), True), ((101, 100), False),
    ((GREATEST, 100), False),
    ((0, 101), False), ((1, 101), False), ((101, 101), False), ((102, 101), False),
    ((0, GREATEST), False), ((1, GREATEST), False), ((GREATEST, GREATEST), False),
]


class GiftTest(unittest.TestCase):
    def test_gifts_of_all_wills_are_counted_together(self):
        calls = [gift(1, 2), gift(2, 1), gift(1, 3), gift(3, 2, 1, 1, 1)]
        self.assertEqual(first_numbers(*persons(3), *calls)[3:], [1, 2, 3, 4])

    def test_fractions(self):
        for fraction, may_be in FRACTIONS:
            with self.subTest(fraction=fraction):
                self.assertEqual(last_number(*persons(2), gift(1, 2, 0, *fraction)), 1 if may_be else -1)

    def test_all_together_just_all_and_more(self):
        calls = [gift(1, 2, 0, 1, 2), gift(1, 2, 0, 1, 3), gift(1, 2, 0, 17, 100), gift(1, 2, 0, 1, 6),
                 gift(1, 2, 0, 1, 100), gift(1, 1, 0, 1, 1)]
        self.assertEqual(first_numbers(*persons(2), *calls)[2:], [1, 2, -6, 3, -6, -6])

    def test_after_one_that_is_all_there_is_no_more(self):
        self.assertEqual(first_numbers(*persons(2), gift(1, 2, 0, 1, 1), gift(1, 2, 0, 1, 100))[2:], [1, -6])

    def test_another_will_has_its_own_all(self):
        calls = [gift(1, 2, 0, 1, 1), gift(2, 1, 0, 1, 1), gift(2, 3, 0, 1, 2), gift(3, 1, 0, 1, 2)]
        self.assertEqual(first_numbers(*persons(3), *calls)[3:], [1, 2, -6, 3])

    def test_gifts_that_will_not_be_given_count_too(self):
        calls = [dies(2), gift(1, 2, 0, 3, 4), renounce(3, 1), gift(1, 3, 2, 1, 4), gift(1, 4, 0, 1, 100)]
        self.assertEqual(first_numbers(*persons(4), *calls)[4:], [0, 1, 0, 2, -6])

    def test_the_tenth_and_the_eleventh(self):
        in_one_will = [gift(1, 2, 0, 1, 100)] * 12
        self.assertEqual(first_numbers(*persons(2), *in_one_will)[2:], list(range(1, 11)) + [-5, -5])
        in_two = [gift(1, 2, 0, 1, 10)] * 4 + [gift(2, 1, 0, 1, 10)] * 6 + [gift(1, 2, 0, 1, 10), gift(3, 1, 0, 1, 10)]
        self.assertEqual(first_numbers(*persons(3), *in_two)[3:], list(range(1, 11)) + [-5, -5])

    def test_ten_that_are_just_all(self):
        self.assertEqual(last_number(*persons(2), *[gift(1, 2, 0, 1, 10)] * 10), 10)

    def test_no_such_person(self):
        for whose, whom, instead in [
            (0, 2, 0), (3, 2, 0), (GREATEST, 2, 0), (1, 0, 0), (1, 0, 2), (1, 3, 0), (1, 3, 2), (1, GREATEST, 2),
            (1, 2, 3), (1, 2, 17), (1, 2, GREATEST), (0, 0, 0), (3, 3, 3),
        ]:
            with self.subTest(whose=whose, whom=whom, instead=instead):
                self.assertEqual(last_number(*persons(2), gift(whose, whom, instead)), -2)

    def test_the_sixteenth(self):
        calls = [gift(16, 15, 14), gift(1, 16, 15), gift(1, 2, 16), gift(17, 1), gift(1, 17), gift(1, 2, 17)]
        self.assertEqual(first_numbers(*persons(16), *calls)[16:], [1, 2, 3, -2, -2, -2])

    def test_the_same_one_may_be_named_twice(self):
        calls = [gift(1, 1, 0, 1, 4), gift(1, 2, 2, 1, 4), gift(1, 2, 1, 1, 4), gift(1, 1, 1, 1, 4)]
        self.assertEqual(first_numbers(*persons(2), *calls)[2:], [1, 2, 3, 4])

    def test_from_and_to_dead_ones(self):
        self.assertEqual(first_numbers(*persons(2), dies(1), dies(2), gift(1, 2), gift(2, 1, 2))[4:], [1, 2])

    def test_the_first_refusal_told_counts(self):
        full = persons(2) + [gift(1, 2, 0, 1, 10)] * 10
        for bad, answer in [
            (gift(1, 3, 0, 0, 0), -2), (gift(1, 2, 3, 2, 1), -2), (gift(0, 2, 0, 1, 2), -2), (gift(1, 0, 0, 1, 2), -2),
            (gift(1, 2, 0, 0, 1), -1), (gift(1, 2, 0, 2, 1), -1), (gift(1, 2, 0, 1, 101), -1),
            (gift(1, 2, 0, 1, 2), -5), (gift(2, 1, 0, 1, 2), -5),
        ]:
            with self.subTest(bad=bad):
                self.assertEqual(last_number(*full, bad), answer)
        self.assertEqual(first_numbers(*persons(2), gift(1, 2, 0, 1, 1), gift(1, 3), gift(1, 2, 0, 3, 2),
                                       gift(1, 2))[2:], [1, -2, -1, -6])

    def test_a_refused_gift_is_none(self):
        refused = [gift(1, 9), gift(1, 3, 0, 0, 1), gift(1, 3, 0, 3, 4), gift(1, 3, 0, 1, 101)]
        calls = persons(3) + [gift(1, 2, 0, 1, 2)] + refused
        self.assertEqual(first_numbers(*calls)[4:], [-2, -1, -6, -1])
        self.assertEqual(last_number(*calls, gift(1, 3, 0, 1, 2)), 2)
        self.assertEqual(last_rows(*calls, dies(1), shares(1)), [(2, 1, 1)])

    def test_the_refused_eleventh_is_none(self):
        calls = persons(3) + [gift(1, 2, 0, 1, 20)] * 10 + [gift(1, 3, 0, 1, 2), dies(1), shares(1)]
        self.assertEqual(last_rows(*calls), [(2, 1, 1)])

    def test_begins_forgets_the_gifts(self):
        calls = persons(2) + [gift(1, 2, 0, 1, 1)] + [gift(2, 1, 0, 1, 100)] * 9
        again = [begins()] + persons(2) + [gift(1, 2, 0, 1, 1), gift(1, 2, 0, 1, 1)]
        self.assertEqual(first_numbers(*calls, *again)[12:], [0, 1, 2, 1, -6])

    def test_a_gift_is_no_person_and_no_death(self):
        self.assertEqual(first_numbers(person(), gift(1, 1), person(), dies(1), dies(2)), [1, 1, 2, 0, 0])


if __name__ == "__main__":
    unittest.main()
