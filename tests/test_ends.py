import unittest

from told import GREATEST, dies, each_answer, ends, gift, last_answer, last_rows, law, marry, person, persons, renounce
from told import shares

# 1 has the children 2 and 3; 4 is 2's child, 5 is 3's.
FAMILY = [person(), person(1, 0), person(1, 0), person(2, 0), person(3, 0)]


class OwnTest(unittest.TestCase):
    def test_who_has_not_died(self):
        for day in [0, 5, 99999]:
            with self.subTest(day=day):
                self.assertEqual(last_rows(*FAMILY, ends(1, day)), [(1, 1, 1)])

    def test_up_to_the_day_before_the_death(self):
        for day, row in [(0, (1, 1, 1)), (4, (1, 1, 1)), (5, (2, 1, 1)), (6, (2, 1, 1)), (99999, (2, 1, 1))]:
            with self.subTest(day=day):
                self.assertEqual(last_rows(person(), person(1, 0), dies(1, 5), ends(1, day)), [row])

    def test_on_the_first_day(self):
        self.assertEqual(last_rows(person(), person(1, 0), dies(1, 0), ends(1, 0)), [(2, 1, 1)])

    def test_on_the_last_day(self):
        calls = [person(), person(1, 0), dies(1, 99999)]
        self.assertEqual(last_rows(*calls, ends(1, 99998)), [(1, 1, 1)])
        self.assertEqual(last_rows(*calls, ends(1, 99999)), [(2, 1, 1)])

    def test_other_deaths_before_it_do_not_matter(self):
        calls = FAMILY + [dies(2, 1), dies(3, 2), ends(1, 3)]
        self.assertEqual(last_rows(*calls), [(1, 1, 1)])


class PassingOnTest(unittest.TestCase):
    def test_to_the_shares(self):
        calls = FAMILY + [person(), gift(1, 6, 0, 1, 1), dies(1, 5)]
        self.assertEqual(last_rows(*calls, ends(1, 5)), [(2, 1, 4), (3, 1, 4), (6, 1, 2)])
        self.assertEqual(last_answer(*calls, ends(1, 5)), last_answer(*calls, shares(1)))

    def test_one_heir_dies(self):
        calls = FAMILY + [dies(1, 5), dies(2, 7)]
        self.assertEqual(last_rows(*calls, ends(1, 6)), [(2, 1, 2), (3, 1, 2)])
        self.assertEqual(last_rows(*calls, ends(1, 7)), [(3, 1, 2), (4, 1, 2)])
        self.assertEqual(last_rows(*calls, ends(2, 7)), [(4, 1, 1)])

    def test_two_heirs_die_on_one_day(self):
        calls = FAMILY + [dies(1, 5), dies(3, 7), dies(2, 7), ends(1, 7)]
        self.assertEqual(last_rows(*calls), [(4, 1, 2), (5, 1, 2)])

    def test_who_die_on_one_day_do_not_take_of_one_another(self):
        calls = [person(), person(1, 0), person(1, 0), dies(1, 5), dies(2, 7)]
        self.assertEqual(last_rows(*calls, dies(3, 7), ends(1)), [(0, 1, 1)])
        self.assertEqual(last_rows(*calls, dies(3, 8), ends(1, 7)), [(3, 1, 1)])
        self.assertEqual(last_rows(*calls, dies(3, 8), ends(1, 8)), [(0, 1, 1)])

    def test_an_heir_dies_on_the_very_day(self):
        calls = FAMILY + [dies(1, 5), dies(2, 5), ends(1, 5)]
        self.assertEqual(last_rows(*calls), [(3, 1, 2), (4, 1, 2)])

    def test_deaths_told_in_another_order(self):
        in_order = [dies(1, 5), dies(2, 7), dies(4, 9)]
        for deaths in [in_order, in_order[::-1], in_order[1:] + in_order[:1]]:
            with self.subTest(deaths=deaths):
                calls = FAMILY + deaths
                self.assertEqual(last_rows(*calls, ends(1, 8)), [(3, 1, 2), (4, 1, 2)])
                # 4 leaves neither children nor a living parent; of 2's line nobody is left, so 3 takes as 1's line.
                self.assertEqual(last_rows(*calls, ends(1, 9)), [(3, 1, 1)])

    def test_who_has_a_higher_number_dies_earlier(self):
        calls = [*persons(3), gift(3, 2, 0, 1, 1), gift(2, 1, 0, 1, 1), dies(3, 1), dies(2, 2)]
        self.assertEqual(last_rows(*calls, ends(3, 1)), [(2, 1, 1)])
        self.assertEqual(last_rows(*calls, ends(3, 2)), [(1, 1, 1)])

    def test_what_comes_in_several_ways_is_added(self):
        # 3 has a half of 1's estate, and by 2's will 1 by 4 of what 2 had.
        calls = FAMILY + [gift(2, 3, 0, 1, 4), dies(1, 5), dies(2, 7), ends(1, 7)]
        self.assertEqual(last_rows(*calls), [(3, 5, 8), (4, 3, 8)])

    def test_each_ones_own_will_and_who_has_renounced_that(self):
        calls = FAMILY + [person(), gift(1, 6, 0, 1, 4), gift(2, 6, 0, 1, 2), renounce(4, 2), dies(1, 5), dies(2, 7)]
        # 2 has 3 by 8 of it; 4 has renounced that and has no line: 1 is dead, so 3 takes, beside 6.
        self.assertEqual(last_rows(*calls, ends(1, 7)), [(3, 9, 16), (6, 7, 16)])

    def test_who_has_renounced_the_first_estate_may_take_later(self):
        calls = FAMILY + [renounce(4, 1), dies(1, 5), dies(2, 7), ends(1, 7)]
        self.assertEqual(last_rows(*calls), [(3, 1, 2), (4, 1, 2)])

    def test_what_cannot_be_taken_away_counts_each_time(self):
        calls = [law(1, 1, 3), person(), person(1, 0), person(2, 0), person(), gift(1, 4, 0, 1, 1), gift(2, 4, 0, 1, 1),
                 dies(1, 5), dies(2, 7)]
        self.assertEqual(last_rows(*calls, ends(1, 5)), [(2, 1, 3), (4, 2, 3)])
        self.assertEqual(last_rows(*calls, ends(1, 7)), [(3, 1, 9), (4, 8, 9)])

    def test_a_couple(self):
        calls = [*persons(2), person(1, 2), person(), person(2, 4), marry(1, 2), dies(1, 5), dies(2, 7)]
        self.assertEqual(last_rows(*calls, ends(1, 5)), [(2, 1, 4), (3, 3, 4)])
        self.assertEqual(last_rows(*calls, ends(1, 7)), [(3, 7, 8), (5, 1, 8)])

    def test_fifteen_deaths(self):
        family = [person()] + [person(number, 0) for number in range(1, 16)]
        calls = family + [dies(number, number) for number in range(1, 17)]
        for day in range(16):
            with self.subTest(day=day):
                self.assertEqual(last_rows(*calls, ends(1, day)), [(day + 1, 1, 1)])
        self.assertEqual(last_rows(*calls, ends(1, 16)), [(0, 1, 1)])

    def test_great_fractions(self):
        # Whoever dies leaves 99 by 100 to the next one and the rest to the child.
        family = persons(8) + [person(number, 0) for number in range(1, 9)]
        wills = [gift(number, number + 1, 0, 99, 100) for number in range(1, 8)]
        deaths = [dies(number, number) for number in range(1, 8)]
        calls = [law(1, 0, 1)] + family + wills + deaths + [ends(1)]
        expected = [(8, 99 ** 7, 100 ** 7)]
        expected += [(8 + number, 99 ** (number - 1), 100 ** number) for number in range(1, 8)]
        self.assertEqual(last_rows(*calls), expected)


class NobodysTest(unittest.TestCase):
    def test_from_the_death_on(self):
        calls = [person(), dies(1, 5)]
        self.assertEqual(last_rows(*calls, ends(1, 4)), [(1, 1, 1)])
        self.assertEqual(last_rows(*calls, ends(1, 5)), [(0, 1, 1)])

    def test_is_told_last(self):
        calls = [*persons(3), gift(1, 2), gift(1, 3), dies(1, 5), dies(2, 6)]
        self.assertEqual(last_answer(*calls, ends(1, 6)), [2, 3, 1, 2, 0, 1, 2])

    def test_is_added(self):
        calls = [*persons(4), *[gift(1, whom, 0, 1, 3) for whom in (2, 3, 4)], dies(1, 5), dies(2, 6), dies(3, 7)]
        self.assertEqual(last_rows(*calls, ends(1, 6)), [(3, 1, 3), (4, 1, 3), (0, 1, 3)])
        self.assertEqual(last_rows(*calls, ends(1, 7)), [(4, 1, 3), (0, 2, 3)])
        self.assertEqual(last_rows(*calls, dies(4, 8), ends(1, 8)), [(0, 1, 1)])

    def test_is_so_for_good(self):
        calls = [*persons(3), gift(1, 2), gift(1, 3), dies(1, 5), dies(2, 6), gift(3, 2), dies(3, 7), ends(1, 8)]
        self.assertEqual(last_rows(*calls), [(0, 1, 1)])
        calls = [*persons(2), person(2, 0), dies(1, 1), dies(3, 2), ends(1, 2)]
        self.assertEqual(last_rows(*calls), [(0, 1, 1)])


class RefusalsTest(unittest.TestCase):
    def test_no_such_person(self):
        for who in [0, 3, 16, 17, GREATEST]:
            for day in [0, 99999, 100000, GREATEST]:
                with self.subTest(who=who, day=day):
                    self.assertEqual(last_answer(*persons(2), dies(1), ends(who, day)), [-2])

    def test_days(self):
        for day, answer in [(0, [1, 1, 1, 1]), (99999, [1, 1, 1, 1]), (100000, [-1]), (GREATEST, [-1])]:
            with self.subTest(day=day):
                self.assertEqual(last_answer(person(), ends(1, day)), answer)

    def test_of_a_dead_one_too(self):
        calls = [person(), dies(1), ends(1, 100000), ends(1, 99999), ends(2, 100000)]
        self.assertEqual(each_answer(*calls)[2:], [[-1], [1, 0, 1, 1], [-2]])


if __name__ == "__main__":
    unittest.main()
