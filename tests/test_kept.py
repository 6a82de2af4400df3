import unittest

from told import FIVE_PARTS, by_law, dies, each_answer, gift, kept, last_answer, last_rows, law, marry, person
from told import persons, renounce

COUPLE_WITH_CHILDREN = [*persons(2), person(1, 2), person(1, 2), marry(1, 2), dies(1, 1)]


class WhoTest(unittest.TestCase):
    def test_children_and_a_spouse(self):
        self.assertEqual(last_rows(*COUPLE_WITH_CHILDREN, kept(1)), [(2, 1, 8), (3, 3, 16), (4, 3, 16)])

    def test_farther_descendants(self):
        calls = [person()] + [person(number, 0) for number in (1, 2, 3)] + [person(1, 0)]
        calls += [dies(2), dies(3), dies(1, 1), kept(1)]
        self.assertEqual(last_rows(*calls), [(4, 1, 4), (5, 1, 4)])

    def test_parents(self):
        self.assertEqual(last_rows(*persons(2), person(1, 2), dies(3), kept(3)), [(1, 1, 4), (2, 1, 4)])

    def test_no_brothers_and_sisters(self):
        calls = [*persons(2), person(1, 2), person(1, 2), dies(1), dies(3, 1)]
        self.assertEqual(last_rows(*calls, by_law(3)), [(2, 1, 2), (4, 1, 2)])
        self.assertEqual(last_rows(*calls, kept(3)), [(2, 1, 4)])

    def test_no_grandparents(self):
        calls = [person(), person(1, 0), person(2, 0), dies(2), dies(3, 1)]
        self.assertEqual(last_rows(*calls, by_law(3)), [(1, 1, 1)])
        self.assertEqual(last_answer(*calls, kept(3)), [0])

    def test_a_spouse_beside_grandparents(self):
        calls = [person(), person(1, 0), person(2, 0), person(), marry(3, 4), dies(2), dies(3, 1), kept(3)]
        self.assertEqual(last_rows(*calls), [(4, 3, 8)])

    def test_a_spouse_alone(self):
        self.assertEqual(last_rows(*persons(2), marry(1, 2), dies(1), kept(1)), [(2, 1, 2)])

    def test_all_that_comes_to_a_spouse_by_law_counts(self):
        calls = [person(), person(1, 0), person(1, 0), person(1, 0), marry(2, 3), dies(1), dies(2, 1)]
        self.assertEqual(last_rows(*calls, by_law(2)), [(3, 3, 4), (4, 1, 4)])
        self.assertEqual(last_rows(*calls, kept(2)), [(3, 3, 8)])

    def test_who_does_not_take_by_law_is_not_told(self):
        family = [person(), person(1, 0), person(), marry(1, 3), dies(1)]
        self.assertEqual(last_rows(law(parts=(0, 1) + FIVE_PARTS[2:]), *family, kept(1)), [(2, 1, 2)])
        self.assertEqual(last_rows(law(parts=(1, 1) + FIVE_PARTS[2:]), *family, kept(1)), [(3, 1, 2)])
        self.assertEqual(last_rows(*family, renounce(3, 1), kept(1)), [(2, 1, 2)])
        self.assertEqual(last_rows(*family, renounce(2, 1), kept(1)), [(3, 1, 2)])

    def test_nobody(self):
        self.assertEqual(last_answer(person(), dies(1), kept(1)), [0])

    def test_a_descendant_who_takes_in_a_farther_class(self):
        # 2 is dead; 4, the child, has renounced, and the lines don't step in; 5 takes through 3, the sister.
        family = [law(0), person(), person(1, 0), person(1, 0), person(2, 0)]
        end = [renounce(4, 2), dies(1), dies(3), dies(2, 1)]
        self.assertEqual(last_rows(*family, person(4, 3), *end, by_law(2)), [(5, 1, 1)])
        self.assertEqual(last_rows(*family, person(4, 3), *end, kept(2)), [(5, 1, 2)])
        self.assertEqual(last_rows(*family, person(3, 0), *end, by_law(2)), [(5, 1, 1)])
        self.assertEqual(last_answer(*family, person(3, 0), *end, kept(2)), [0])


class HowMuchTest(unittest.TestCase):
    def test_nothing(self):
        for below in [1, 7, 100]:
            with self.subTest(below=below):
                calls = [law(1, 0, below)] + COUPLE_WITH_CHILDREN + [kept(1)]
                self.assertEqual(last_rows(*calls), [(2, 0, 1), (3, 0, 1), (4, 0, 1)])

    def test_all(self):
        calls = [law(1, 1, 1)] + COUPLE_WITH_CHILDREN + [kept(1), by_law(1)]
        answers = each_answer(*calls)
        self.assertEqual(answers[-2], [3, 2, 1, 4, 3, 3, 8, 4, 3, 8])
        self.assertEqual(answers[-2], answers[-1])

    def test_in_lowest_terms(self):
        calls = [law(1, 64, 96)] + COUPLE_WITH_CHILDREN + [kept(1)]
        self.assertEqual(last_rows(*calls), [(2, 1, 6), (3, 1, 4), (4, 1, 4)])

    def test_a_hundredth_and_ninety_nine(self):
        family = [person(), person(1, 0), dies(1), kept(1)]
        self.assertEqual(last_rows(law(1, 1, 100), *family), [(2, 1, 100)])
        self.assertEqual(last_rows(law(1, 99, 100), *family), [(2, 99, 100)])

    def test_a_will_does_not_matter(self):
        calls = COUPLE_WITH_CHILDREN + [person(), gift(1, 5, 0, 1, 2), gift(1, 3, 0, 1, 2), kept(1)]
        self.assertEqual(last_rows(*calls), [(2, 1, 8), (3, 3, 16), (4, 3, 16)])

    def test_a_refused_law_does_not_matter(self):
        calls = COUPLE_WITH_CHILDREN + [law(1, 2, 1), law(1, 1, 3, (1, 2)), kept(1)]
        self.assertEqual(last_rows(*calls), [(2, 1, 8), (3, 3, 16), (4, 3, 16)])


if __name__ == "__main__":
    unittest.main()
