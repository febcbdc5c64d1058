"""The interface: what is handed in, and what is given back."""

import unittest

from earthmoved.field import answers

CALLS = [0, 2, 2, 3, 4, 1, 0, 9, 2, 3, 5, 3, 3, 4, 5, 6, 0, 7, 1, 4, 0, 0, 5, 1, 1, 1]
ANSWERS = [1, 0, 1, 0, 1, 0, 3, 0, 0, 5, 3, 0, 9, 5, 1, 26, 2, 0, -4, 2, 2, 12, 1, -2, 1, -22]


class Interface(unittest.TestCase):
    def test_each_answer_has_how_many_numbers_before_it(self):
        self.assertEqual(answers(CALLS), ANSWERS)

    def test_what_is_handed_in_stays_as_it_was(self):
        calls = list(CALLS)
        told = answers(calls)
        self.assertEqual(calls, CALLS)
        self.assertIsNot(told, calls)

    def test_a_second_time_answers_as_the_first(self):
        first = answers(list(CALLS))
        first.append(99)
        self.assertEqual(answers(list(CALLS)), ANSWERS)
        self.assertEqual(answers([3, 0]), [1, -11])

    def test_gives_back_a_list_of_whole_numbers(self):
        told = answers(CALLS)
        self.assertIs(type(told), list)
        for number in told:
            self.assertIs(type(number), int)

    def test_80_calls(self):
        self.assertEqual(answers([4] * 80), [1, -11] * 80)
        calls = [0, 3, 3, 100, 1]
        for s in range(9):
            calls += [1, s, 50 - 6 * s]
        told = answers(calls + [7] * 70)
        self.assertEqual(told[:20], [1, 0] * 10)
        self.assertEqual(told[20:], told[20:23] * 70)
        self.assertEqual(len(told), 20 + 3 * 70)


if __name__ == "__main__":
    unittest.main()
