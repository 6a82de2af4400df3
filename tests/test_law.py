import unittest

from heirshares.land import Land, answer_law
from told import FIVE_PARTS, GREATEST, first_numbers, last_number, law, person

# A fraction, and what law answers where it stands among good ones.
FRACTIONS = [
    ((0, 1), 0), ((1, 1), 0), ((2, 1), -1), ((GREATEST, 1), -1),
    ((0, 0), -1), ((1, 0), -1), ((GREATEST, 0), -1),
    ((0, 2), 0), ((1, 2), 0), ((2, 2), 0), ((3, 2), -1), ((2, 4), 0),
    ((0, 100), 0), ((1, 100), 0), ((99, 100), 0), ((100, 100), 0), ((101, 100), -1), ((GREATEST, 100), -1),
    ((0, 101), -1), ((1, 101), -1), ((101, 101), -1), ((102, 101), -1),
    ((0, GREATEST), -1), ((1, GREATEST), -1), ((GREATEST, GREATEST), -1),
]


def with_part(which, fraction):
    parts = list(FIVE_PARTS)
    parts[2 * which:2 * which + 2] = fraction
    return parts


class LawTest(unittest.TestCase):
    def test_lines_step_in_or_not(self):
        self.assertEqual(first_numbers(law(1), law(0), law(1)), [0, 0, 0])

    def test_what_cannot_be_taken_away(self):
        for fraction, answer in FRACTIONS:
            with self.subTest(fraction=fraction):
                self.assertEqual(first_numbers(law(1, *fraction)), [answer])

    def test_each_spouses_part(self):
        for which in range(5):
            for fraction, answer in FRACTIONS:
                with self.subTest(which=which, fraction=fraction):
                    self.assertEqual(first_numbers(law(parts=with_part(which, fraction))), [answer])

    def test_none_to_eight_spouses_parts(self):
        for count in range(9):
            with self.subTest(count=count):
                self.assertEqual(first_numbers(law(parts=(1, 2) * count)), [0 if count == 5 else -1])

    def test_several_faults_are_one_refusal(self):
        self.assertEqual(first_numbers(law(0, 2, 1, (3, 2) * 4), law(0, 1, 0, (1, 101) * 5)), [-1, -1])

    def test_after_a_refusal_the_next_call_is_read_rightly(self):
        for count in range(9):
            with self.subTest(count=count):
                self.assertEqual(last_number(law(1, 2, 1, (1, 2) * count), person()), 1)

    def test_law_leaves_the_persons_alone(self):
        self.assertEqual(first_numbers(person(), law(), person(1, 0), law(1, 2, 1), person(1, 2)), [1, 0, 2, -1, 3])


class KeptLawTest(unittest.TestCase):
    def assert_law(self, land, steps_in, kept_part, spouse_parts):
        self.assertEqual(land.law.steps_in, steps_in)
        self.assertEqual(land.law.kept_part, kept_part)
        self.assertEqual(land.law.spouse_parts, spouse_parts)

    def test_the_law_at_the_beginning(self):
        self.assert_law(Land(), 1, (1, 2), [(1, 4), (1, 2), (3, 4), (1, 1), (1, 1)])

    def test_the_law_that_was_told_last_holds(self):
        land = Land()
        self.assertEqual(answer_law(land, [0, 1, 3, 0, 1, 1, 5, 2, 5, 3, 5, 4, 5]), [0])
        self.assert_law(land, 0, (1, 3), [(0, 1), (1, 5), (2, 5), (3, 5), (4, 5)])
        self.assertEqual(answer_law(land, [1, 0, 7, 1, 6, 1, 7, 1, 8, 1, 9, 1, 10]), [0])
        self.assert_law(land, 1, (0, 7), [(1, 6), (1, 7), (1, 8), (1, 9), (1, 10)])

    def test_a_refused_law_changes_nothing(self):
        refused = [
            [0, 1, 0] + [1, 3] * 5,
            [0, 4, 3] + [1, 3] * 5,
            [0, 1, 3] + [1, 3] * 4,
            [0, 1, 3] + [1, 3] * 6,
            [0, 1, 3],
            [0, 1, 3] + [1, 3] * 4 + [1, 101],
            [0, 1, 3] + [4, 3] + [1, 3] * 4,
        ]
        land = Land()
        for numbers in refused:
            with self.subTest(numbers=numbers):
                self.assertEqual(answer_law(land, numbers), [-1])
                self.assert_law(land, 1, (1, 2), [(1, 4), (1, 2), (3, 4), (1, 1), (1, 1)])


if __name__ == "__main__":
    unittest.main()
