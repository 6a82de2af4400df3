import unittest

from told import GREATEST, dies, each_answer, last_answer, marry, person, persons, related


class RelatedTest(unittest.TestCase):
    def test_to_oneself(self):
        for who in [1, 2, 3]:
            with self.subTest(who=who):
                self.assertEqual(last_answer(person(), person(1, 0), person(2, 1), related(who, who)), [0, who, 0, 0])

    def test_a_parent_and_a_child(self):
        family = [person(), person(1, 0), person(0, 2)]
        self.assertEqual(last_answer(*family, related(2, 1)), [0, 1, 1, 0])
        self.assertEqual(last_answer(*family, related(1, 2)), [0, 1, 0, 1])
        self.assertEqual(last_answer(*family, related(3, 1)), [0, 1, 2, 0])
        self.assertEqual(last_answer(*family, related(1, 3)), [0, 1, 0, 2])

    def test_brothers_and_sisters(self):
        # Both parents are as near; the least number counts, in whatever order they were told.
        for one, other in [((1, 2), (1, 2)), ((2, 1), (2, 1)), ((1, 2), (2, 1))]:
            with self.subTest(one=one, other=other):
                self.assertEqual(last_answer(*persons(2), person(*one), person(*other), related(3, 4)), [0, 1, 1, 1])
        self.assertEqual(last_answer(*persons(2), person(1, 2), person(2, 0), related(3, 4)), [0, 2, 1, 1])

    def test_an_aunt_and_a_cousin(self):
        family = [person(), person(1, 0), person(1, 0), person(2, 0), person(3, 0), person(5, 0)]
        self.assertEqual(last_answer(*family, related(4, 3)), [0, 1, 2, 1])
        self.assertEqual(last_answer(*family, related(3, 4)), [0, 1, 1, 2])
        self.assertEqual(last_answer(*family, related(4, 5)), [0, 1, 2, 2])
        self.assertEqual(last_answer(*family, related(4, 6)), [0, 1, 2, 3])
        self.assertEqual(last_answer(*family, related(6, 4)), [0, 1, 3, 2])

    def test_the_fewest_together_count_first(self):
        # 7 and 8 both descend from 1, the first as a child and the second by four generations, and from 2 by two each.
        family = persons(2) + [person(2, 0), person(1, 0), person(4, 0), person(5, 2), person(1, 3), person(6, 0)]
        self.assertEqual(last_answer(*family, related(7, 8)), [0, 2, 2, 2])
        self.assertEqual(last_answer(*family, related(8, 7)), [0, 2, 2, 2])

    def test_then_the_fewest_from_the_first(self):
        # 7 and 8 descend from 1 by two generations each, and from 2 by one and by three.
        family = persons(2) + [person(1, 0), person(1, 0), person(2, 0), person(5, 0), person(2, 3), person(4, 6)]
        self.assertEqual(last_answer(*family, related(7, 8)), [0, 2, 1, 3])
        self.assertEqual(last_answer(*family, related(8, 7)), [0, 1, 2, 2])

    def test_then_the_least_number(self):
        family = persons(4) + [person(4, 3), person(2, 1), person(5, 6), person(6, 5)]
        self.assertEqual(last_answer(*family, related(7, 8)), [0, 5, 1, 1])
        # 9 and 10 descend from 1, 2, 3 and 4 by two generations each.
        family = persons(4) + [person(4, 3), person(2, 1), person(4, 3), person(2, 1), person(5, 6), person(8, 7)]
        self.assertEqual(last_answer(*family, related(9, 10)), [0, 1, 2, 2])

    def test_the_shortest_of_several_ways_up(self):
        # 4 is 1's child and 1's great-grandchild; 5 is 1's child.
        family = [person(), person(1, 0), person(2, 0), person(3, 1), person(1, 0)]
        self.assertEqual(last_answer(*family, related(4, 5)), [0, 1, 1, 1])
        self.assertEqual(last_answer(*family, related(1, 4)), [0, 1, 0, 1])
        family = [person(), person(1, 0), person(2, 0), person(1, 3), person(1, 0)]
        self.assertEqual(last_answer(*family, related(4, 5)), [0, 1, 1, 1])

    def test_one_is_the_others_ancestor_and_kin_besides(self):
        # 2 and 3 are 1's children, and 4 is theirs.
        family = [person(), person(1, 0), person(1, 0), person(2, 3)]
        self.assertEqual(last_answer(*family, related(2, 4)), [0, 2, 0, 1])
        self.assertEqual(last_answer(*family, related(4, 3)), [0, 3, 1, 0])
        self.assertEqual(last_answer(*family, related(2, 3)), [0, 1, 1, 1])

    def test_sixteen_generations(self):
        family = [person()] + [person(number, 0) for number in range(1, 16)]
        self.assertEqual(last_answer(*family, related(16, 1)), [0, 1, 15, 0])
        self.assertEqual(last_answer(*family, related(8, 16)), [0, 8, 0, 8])

    def test_two_parents_each_generation(self):
        family = persons(2) + [person(number - 1, number - 2) for number in range(3, 17)]
        self.assertEqual(last_answer(*family, related(16, 1)), [0, 1, 8, 0])
        self.assertEqual(last_answer(*family, related(16, 2)), [0, 2, 7, 0])
        self.assertEqual(last_answer(*family, related(15, 16)), [0, 15, 0, 1])

    def test_no_common_ancestor(self):
        family = [person(), person(), person(1, 0), person(2, 0), person(3, 4)]
        for one, other in [(1, 2), (2, 1), (3, 4), (3, 2), (1, 4)]:
            with self.subTest(one=one, other=other):
                self.assertEqual(last_answer(*family, related(one, other)), [-6])

    def test_a_common_child_or_a_marriage_is_no_ancestor(self):
        self.assertEqual(last_answer(*persons(2), person(1, 2), marry(1, 2), related(1, 2)), [-6])

    def test_deaths_do_not_matter(self):
        calls = [person(), person(1, 0), person(1, 0), dies(1), dies(2), related(2, 3)]
        self.assertEqual(last_answer(*calls), [0, 1, 1, 1])

    def test_no_such_person(self):
        for one, other in [(0, 0), (0, 1), (1, 0), (3, 1), (1, 3), (3, 3), (17, 17), (GREATEST, 1), (1, GREATEST)]:
            with self.subTest(one=one, other=other):
                self.assertEqual(last_answer(*persons(2), related(one, other)), [-2])

    def test_persons_told_in_between(self):
        calls = persons(2) + [related(1, 2), related(2, 2), related(1, 3), person(1, 2), related(1, 3)]
        self.assertEqual(each_answer(*calls)[2:], [[-6], [0, 2, 0, 0], [-2], [3], [0, 1, 0, 1]])


if __name__ == "__main__":
    unittest.main()
