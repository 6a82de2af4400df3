"""What by law, shares and kept refuse alike."""

import unittest

from told import GREATEST, by_law, dies, each_answer, kept, last_answer, person, persons, shares

ASKED = [by_law, shares, kept]


class WhoseEstateTest(unittest.TestCase):
    def test_no_such_person(self):
        for ask in ASKED:
            for who in [0, 3, 16, 17, GREATEST]:
                with self.subTest(ask=ask.__name__, who=who):
                    self.assertEqual(last_answer(*persons(2), dies(1), dies(2), ask(who)), [-2])

    def test_the_sixteenth(self):
        for ask in ASKED:
            with self.subTest(ask=ask.__name__):
                self.assertEqual(each_answer(*persons(16), dies(16), ask(16), ask(17))[17:], [[0], [-2]])

    def test_has_not_died(self):
        for ask in ASKED:
            with self.subTest(ask=ask.__name__):
                calls = [*persons(2), ask(1), dies(2), ask(1), ask(2)]
                self.assertEqual(each_answer(*calls)[2:], [[-4], [0], [-4], [0]])

    def test_a_refused_death_is_none(self):
        for ask in ASKED:
            with self.subTest(ask=ask.__name__):
                self.assertEqual(last_answer(person(), dies(1, 100000), ask(1)), [-4])


if __name__ == "__main__":
    unittest.main()
