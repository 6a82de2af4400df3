import contextlib
import io
import sys
import unittest

from heirshares.land import answers
from told import GREATEST, begins, by_law, dies, ends, first_numbers, gift, kept, law, line, marry, part, person
from told import persons, related, renounce, shares

MIXED = line([
    person(), person(), person(1, 2), marry(1, 2), part(2), marry(2, 1), law(0, 1, 3), renounce(3, 1),
    renounce(3, 1), dies(1, 7), dies(1, 8), part(2), marry(2, 3), person(9, 0), person(2, 0), gift(1, 4, 0, 1, 1),
    gift(1, 4), by_law(1), shares(1), kept(1), kept(2), ends(1, 6), ends(1, 7), related(3, 4), related(1, 2),
    begins(), person(), by_law(1),
])
MIXED_ANSWERS = [
    [1], [2], [3], [0], [0], [0], [0], [0],
    [-3], [0], [-4], [-4], [-4], [-2], [4], [1],
    [-6], [1, 2, 1, 1], [2, 2, 1, 3, 4, 2, 3], [1, 2, 1, 3], [-4], [1, 1, 1, 1], [2, 2, 1, 3, 4, 2, 3],
    [0, 2, 1, 1], [-6],
    [0], [1], [-4],
]


class FrozenList(list):
    def refuse(self, *args, **kwargs):
        raise AssertionError("the list handed in was changed")

    append = clear = extend = insert = pop = remove = reverse = sort = refuse
    __setitem__ = __delitem__ = __iadd__ = __imul__ = refuse


class InterfaceTest(unittest.TestCase):
    def test_calls_as_the_document_writes_them(self):
        calls = [
            2, 2, 0, 0, 0,
            2, 2, 0, 0, 0,
            4, 2, 1, 2, 0,
            1, 13, 1, 1, 2, 1, 4, 1, 2, 3, 4, 1, 1, 1, 1, 0,
            3, 2, 1, 5, 0,
            5, 1, 2, 0,
            6, 2, 2, 1, 0,
            0, 0, 0,
        ]
        self.assertEqual(answers(calls), [1, 1, 1, 2, 1, 0, 1, 0, 1, 0, 1, -4, 1, 0, 1, 0])

    def test_what_stands_behind_the_first_number(self):
        calls = [
            2, 2, 0, 0, 0,
            2, 2, 1, 0, 0,
            2, 2, 0, 0, 0,
            7, 5, 1, 3, 0, 2, 8, 0,
            3, 2, 1, 5, 0,
            8, 1, 1, 0,
            9, 1, 1, 0,
            10, 1, 1, 0,
            11, 2, 1, 5, 0,
            11, 2, 3, 5, 0,
            12, 2, 2, 1, 0,
            12, 2, 2, 3, 0,
        ]
        self.assertEqual(answers(calls), [
            1, 1, 1, 2, 1, 3, 1, 1, 1, 0,
            4, 1, 2, 1, 1,
            7, 2, 2, 3, 4, 3, 1, 4,
            4, 1, 2, 1, 2,
            7, 2, 2, 3, 4, 3, 1, 4,
            4, 1, 3, 1, 1,
            4, 0, 1, 1, 0,
            1, -6,
        ])

    def test_each_answer_has_its_count_before_it(self):
        expected = [number for answer in MIXED_ANSWERS for number in [len(answer), *answer]]
        self.assertEqual(answers(MIXED), expected)

    def test_one_call_alone(self):
        self.assertEqual(answers(begins()), [1, 0])
        self.assertEqual(answers(law()), [1, 0])
        self.assertEqual(answers(person()), [1, 1])
        self.assertEqual(answers(dies(1)), [1, -2])
        self.assertEqual(answers(marry(1, 2)), [1, -2])
        self.assertEqual(answers(part(1)), [1, -2])
        self.assertEqual(answers(renounce(1, 2)), [1, -2])
        self.assertEqual(answers(gift(1, 2)), [1, -2])
        self.assertEqual(answers(by_law(1)), [1, -2])
        self.assertEqual(answers(shares(1)), [1, -2])
        self.assertEqual(answers(kept(1)), [1, -2])
        self.assertEqual(answers(ends(1)), [1, -2])
        self.assertEqual(answers(related(1, 2)), [1, -2])

    def test_a_hundred_calls(self):
        calls = persons(2) + [marry(1, 2), part(1)] * 49
        self.assertEqual(len(calls), 100)
        self.assertEqual(first_numbers(*calls), [1, 2] + [0] * 98)

    def test_as_long_a_list_as_may_be(self):
        calls = [law(1, GREATEST, GREATEST, (1, 1) * 8)] * 100
        self.assertLessEqual(len(line(calls)), 3000)
        self.assertEqual(first_numbers(*calls), [-1] * 100)

    def test_answers_are_a_list_of_whole_numbers(self):
        answered = answers(MIXED)
        self.assertIs(type(answered), list)
        self.assertEqual({type(number) for number in answered}, {int})

    def test_the_list_handed_in_stays_as_it_was(self):
        calls = list(MIXED)
        answers(calls)
        self.assertEqual(calls, MIXED)

    def test_the_list_handed_in_is_not_changed_for_a_while_either(self):
        self.assertEqual(answers(FrozenList(MIXED)), answers(MIXED))

    def test_the_same_list_answers_the_same_again(self):
        calls = list(MIXED)
        first = answers(calls)
        self.assertEqual(answers(calls), first)

    def test_nothing_is_kept_from_one_time_to_the_next(self):
        calls = persons(16) + [marry(1, 2), dies(3), renounce(1, 2)]
        self.assertEqual(first_numbers(*calls), list(range(1, 17)) + [0, 0, 0])
        self.assertEqual(first_numbers(dies(3), person(), person(), marry(1, 2)), [-2, 1, 2, 0])
        self.assertEqual(first_numbers(*calls), list(range(1, 17)) + [0, 0, 0])

    def test_an_answer_that_was_changed_does_not_come_back(self):
        first = answers(MIXED)
        expected = list(first)
        first.clear()
        self.assertEqual(answers(MIXED), expected)

    def test_nothing_is_printed_or_imported(self):
        before = set(sys.modules)
        with contextlib.redirect_stdout(io.StringIO()) as out, contextlib.redirect_stderr(io.StringIO()) as err:
            answers(MIXED)
        self.assertEqual((out.getvalue(), err.getvalue()), ("", ""))
        self.assertEqual(set(sys.modules), before)


if __name__ == "__main__":
    unittest.main()
