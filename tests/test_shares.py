import unittest

from told import dies, each_answer, gift, last_answer, last_rows, law, marry, person, persons, renounce
from told import shares

# 1 has the children 2 and 3; 4 and 5 are friends.
FAMILY = [person(), person(1, 0), person(1, 0), person(), person()]


class WillTest(unittest.TestCase):
    def test_without_a_will_as_by_law(self):
        calls = [*persons(2), person(1, 2), person(1, 2), marry(1, 2), dies(1), shares(1)]
        self.assertEqual(last_rows(*calls), [(2, 1, 4), (3, 3, 8), (4, 3, 8)])

    def test_to_the_one_named(self):
        calls = FAMILY + [gift(1, 4, 5, 1, 4), dies(1), shares(1)]
        self.assertEqual(last_rows(*calls), [(2, 3, 8), (3, 3, 8), (4, 1, 4)])

    def test_to_the_one_instead(self):
        for reason in [dies(4, 4), dies(4, 5), renounce(4, 1)]:
            with self.subTest(reason=reason):
                calls = FAMILY + [gift(1, 4, 5, 1, 4), reason, dies(1, 5), shares(1)]
                self.assertEqual(last_rows(*calls), [(2, 3, 8), (3, 3, 8), (5, 1, 4)])

    def test_the_one_named_died_behind_the_day(self):
        calls = FAMILY + [gift(1, 4, 5, 1, 4), dies(4, 6), dies(1, 5), shares(1)]
        self.assertEqual(last_rows(*calls), [(2, 3, 8), (3, 3, 8), (4, 1, 4)])

    def test_to_oneself(self):
        calls = FAMILY + [gift(1, 1, 5, 1, 4), gift(1, 1, 0, 1, 4), gift(1, 1, 1, 1, 4), dies(1), shares(1)]
        self.assertEqual(last_rows(*calls), [(2, 3, 8), (3, 3, 8), (5, 1, 4)])

    def test_to_nobody(self):
        for reasons in [[dies(4), dies(5)], [dies(4), renounce(5, 1)], [renounce(4, 1), dies(5, 1)]]:
            with self.subTest(reasons=reasons):
                calls = FAMILY + [gift(1, 4, 5, 1, 4), *reasons, dies(1, 1), shares(1)]
                self.assertEqual(last_rows(*calls), [(2, 1, 2), (3, 1, 2)])
        calls = FAMILY + [gift(1, 4, 0, 1, 4), dies(4), dies(1, 1), shares(1)]
        self.assertEqual(last_rows(*calls), [(2, 1, 2), (3, 1, 2)])

    def test_a_gifts_line_does_not_step_in(self):
        calls = FAMILY + [person(4, 0), gift(1, 4, 0, 1, 4), dies(4), dies(1, 1), shares(1)]
        self.assertEqual(last_rows(*calls), [(2, 1, 2), (3, 1, 2)])

    def test_to_an_heir(self):
        calls = FAMILY + [gift(1, 2, 0, 1, 4), dies(1), shares(1)]
        self.assertEqual(last_rows(*calls), [(2, 5, 8), (3, 3, 8)])

    def test_to_an_heir_who_has_renounced(self):
        calls = FAMILY + [gift(1, 2, 0, 1, 4), renounce(2, 1), dies(1), shares(1)]
        self.assertEqual(last_rows(*calls), [(3, 1, 1)])

    def test_several_to_one(self):
        calls = FAMILY + [gift(1, 4, 0, 1, 6), gift(1, 5, 4, 1, 3), dies(5), dies(1, 1), shares(1)]
        self.assertEqual(last_rows(*calls), [(2, 1, 4), (3, 1, 4), (4, 1, 2)])

    def test_to_a_grandchild_beside_a_living_child(self):
        calls = [person(), person(1, 0), person(2, 0), gift(1, 3, 0, 1, 1), dies(1), shares(1)]
        self.assertEqual(last_rows(*calls), [(2, 1, 2), (3, 1, 2)])

    def test_another_will_does_not_matter(self):
        calls = FAMILY + [gift(2, 4, 0, 1, 1), gift(4, 1, 0, 1, 1), dies(1), dies(2, 1), shares(1)]
        self.assertEqual(last_rows(*calls), [(2, 1, 2), (3, 1, 2)])

    def test_told_after_the_death(self):
        answers = each_answer(*FAMILY, dies(1), shares(1), gift(1, 4, 0, 1, 2), shares(1))
        self.assertEqual(answers[6:], [[2, 2, 1, 2, 3, 1, 2], [1], [3, 2, 1, 4, 3, 1, 4, 4, 1, 2]])

    def test_ten_gifts_that_are_just_all(self):
        calls = persons(11) + [gift(11, whom, 0, 1, 10) for whom in range(1, 11)] + [dies(11), shares(11)]
        self.assertEqual(last_rows(*calls), [(whom, 1, 10) for whom in range(1, 11)])


class NobodyByLawTest(unittest.TestCase):
    def test_gifts_are_made_greater(self):
        calls = persons(3) + [gift(1, 2, 0, 1, 4), gift(1, 3, 0, 1, 2), dies(1), shares(1)]
        self.assertEqual(last_rows(*calls), [(2, 1, 3), (3, 2, 3)])

    def test_the_least_gift_is_made_all(self):
        self.assertEqual(last_rows(*persons(2), gift(1, 2, 0, 1, 100), dies(1), shares(1)), [(2, 1, 1)])

    def test_gifts_that_are_all_stay(self):
        calls = persons(3) + [gift(1, 2, 0, 1, 3), gift(1, 3, 0, 2, 3), dies(1), shares(1)]
        self.assertEqual(last_rows(*calls), [(2, 1, 3), (3, 2, 3)])

    def test_gifts_that_are_not_given_do_not_count(self):
        calls = persons(4) + [gift(1, 2, 0, 1, 4), gift(1, 3, 0, 1, 4), gift(1, 4, 0, 1, 2), dies(4), dies(1, 1),
                              shares(1)]
        self.assertEqual(last_rows(*calls), [(2, 1, 2), (3, 1, 2)])

    def test_no_gift_is_given(self):
        self.assertEqual(last_answer(*persons(2), gift(1, 2), dies(2), dies(1), shares(1)), [0])
        self.assertEqual(last_answer(*persons(2), dies(1), shares(1)), [0])

    def test_kin_too_far_away(self):
        family = [person()] + [person(number, 0) for number in range(1, 6)]
        calls = family + [dies(number) for number in range(2, 6)] + [gift(6, 1, 0, 1, 9), dies(6, 1), shares(6)]
        self.assertEqual(last_rows(*calls), [(1, 1, 1)])


class MissingTest(unittest.TestCase):
    def test_a_friend_is_to_have_all(self):
        calls = FAMILY + [gift(1, 4, 0, 1, 1), dies(1), shares(1)]
        self.assertEqual(last_rows(*calls), [(2, 1, 4), (3, 1, 4), (4, 1, 2)])

    def test_two_friends_are_to_have_all(self):
        calls = FAMILY + [gift(1, 4, 0, 3, 4), gift(1, 5, 0, 1, 4), dies(1), shares(1)]
        self.assertEqual(last_rows(*calls), [(2, 1, 4), (3, 1, 4), (4, 3, 8), (5, 1, 8)])

    def test_a_child_and_a_friend_are_to_have_all(self):
        # 3 misses 1 by 4; 2 would have 7 by 20 more than 1 by 4, and 4 would have 8 by 20 more than nothing.
        calls = FAMILY + [gift(1, 2, 0, 3, 5), gift(1, 4, 0, 2, 5), dies(1), shares(1)]
        self.assertEqual(last_rows(*calls), [(2, 29, 60), (3, 1, 4), (4, 4, 15)])

    def test_two_miss_different_amounts(self):
        # 2 is to have 1 by 10 and 3 nothing, where each has to have 1 by 4: 3 by 20 and 5 by 20 are missing.
        calls = FAMILY + [gift(1, 2, 0, 1, 10), gift(1, 4, 0, 3, 10), gift(1, 5, 0, 6, 10), dies(1), shares(1)]
        self.assertEqual(last_rows(*calls), [(2, 1, 4), (3, 1, 4), (4, 1, 6), (5, 1, 3)])

    def test_just_what_cannot_be_taken_away(self):
        calls = FAMILY + [gift(1, 4, 0, 1, 2), dies(1), shares(1)]
        self.assertEqual(last_rows(*calls), [(2, 1, 4), (3, 1, 4), (4, 1, 2)])

    def test_a_little_less(self):
        calls = FAMILY + [gift(1, 4, 0, 51, 100), dies(1), shares(1)]
        self.assertEqual(last_rows(*calls), [(2, 1, 4), (3, 1, 4), (4, 1, 2)])

    def test_a_little_more(self):
        calls = FAMILY + [gift(1, 4, 0, 49, 100), dies(1), shares(1)]
        self.assertEqual(last_rows(*calls), [(2, 51, 200), (3, 51, 200), (4, 49, 100)])

    def test_nothing_cannot_be_taken_away(self):
        calls = [law(1, 0, 1)] + FAMILY + [gift(1, 4, 0, 1, 1), dies(1), shares(1)]
        self.assertEqual(last_rows(*calls), [(4, 1, 1)])

    def test_all_cannot_be_taken_away(self):
        calls = [law(1, 1, 1)] + FAMILY + [gift(1, 4, 0, 1, 2), dies(1), shares(1)]
        self.assertEqual(last_rows(*calls), [(2, 1, 2), (3, 1, 2)])
        calls = [law(1, 1, 1)] + FAMILY + [gift(1, 2, 0, 1, 1), dies(1), shares(1)]
        self.assertEqual(last_rows(*calls), [(2, 1, 2), (3, 1, 2)])
        self.assertEqual(last_rows(law(1, 1, 1), *FAMILY, dies(1), shares(1)), [(2, 1, 2), (3, 1, 2)])

    def test_spouse_and_child(self):
        calls = [person(), person(), person(1, 0), person(), marry(1, 2), gift(1, 4, 0, 1, 1), dies(1), shares(1)]
        self.assertEqual(last_rows(*calls), [(2, 1, 8), (3, 3, 8), (4, 1, 2)])

    def test_parents(self):
        calls = [*persons(3), person(1, 2), gift(4, 3, 0, 1, 1), dies(4), shares(4)]
        self.assertEqual(last_rows(*calls), [(1, 1, 4), (2, 1, 4), (3, 1, 2)])

    def test_brothers_and_sisters_may_be_left_with_nothing(self):
        calls = [person(), person(1, 0), person(1, 0), person(), dies(1), gift(2, 4, 0, 1, 1), dies(2, 1), shares(2)]
        self.assertEqual(last_rows(*calls), [(4, 1, 1)])

    def test_a_brother_beside_a_parent(self):
        # By law 2, the mother, and 4, the brother, have a half each; 5 is to have 9 by 10, so 2 and 4 1 by 20 each.
        # 2 misses 4 by 20; 4 and 5 would have 1 by 20 and 18 by 20 more than what can't be taken away.
        family = [*persons(2), person(1, 2), person(1, 2), person()]
        calls = family + [dies(1), gift(3, 5, 0, 9, 10), dies(3, 1), shares(3)]
        self.assertEqual(last_rows(*calls), [(2, 1, 4), (4, 3, 76), (5, 27, 38)])

    def test_what_cannot_be_taken_away_is_by_law_not_by_heads(self):
        # By law 3 has a half, 4 and 5 1 by 4 each; of that a third can't be taken away.
        family = [person(), person(1, 0), person(1, 0), person(2, 0), person(2, 0), person()]
        calls = [law(1, 1, 3)] + family + [dies(2), gift(1, 6, 0, 1, 1), dies(1, 1), shares(1)]
        self.assertEqual(last_rows(*calls), [(3, 1, 6), (4, 1, 12), (5, 1, 12), (6, 2, 3)])


if __name__ == "__main__":
    unittest.main()
