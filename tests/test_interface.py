"""The interface: what is handed in, and what is given back."""

import unittest

from earthmoved.field import answers

CALLS = [0, 2, 2, 3, 4, 1, 0, 9, 2, 3, 5, 3, 3, 4, 5, 6, 0, 7, 1, 4, 0, 0, 5, 1, 1, 1]
ANSWERS = [1, 0, 1, 0, 1, 0, 3, 0, 0, 5, 3, 0, 9, 5, 1, 26, 2, 0, -4, 2, 2, 12, 1, -2, 1, -22]

# All sixteen: begin, ground, want, look, sums, least, worth, flat, move, bring, take, wise, next, done, steep, state.
SIXTEEN = [[0, 2, 1, 10, 20], [1, 1, 3], [2, 0, 2], [3, 1], [4], [5], [6, 0], [7], [8, 1, 3, 2], [9, 1], [10, 1],
           [11, 1, 3], [12], [13], [14, 1], [15]]
SIXTEEN_ANSWERS = [[0], [0], [0], [0, 3, 0], [0, 3, 2], [23], [0, -20], [2, 11], [2], [12], [32],
                   [1], [0, 1, 3], [0], [1, 0, 1], [0, 2, 1, 10, 20, 32]]


def counted(rows):
    """The rows one behind another, each with how many numbers it has before it."""
    return [number for row in rows for number in [len(row)] + row]


class Interface(unittest.TestCase):
    def test_each_answer_has_how_many_numbers_before_it(self):
        self.assertEqual(answers(CALLS), ANSWERS)

    def test_each_of_the_sixteen_calls(self):
        self.assertEqual(answers(sum(SIXTEEN, [])), counted(SIXTEEN_ANSWERS))

    def test_each_but_begin_is_minus_11_ahead_of_one_that_is_answered_0(self):
        refused = [0, 2, 1, 10, 101]
        for call in SIXTEEN[1:]:
            self.assertEqual(answers(call), [1, -11])
            self.assertEqual(answers(refused + call + SIXTEEN[0] + SIXTEEN[15]),
                             [1, -22, 1, -11, 1, 0, 6, 0, 2, 1, 10, 20, 0])
        self.assertEqual(answers(sum(SIXTEEN[1:] + SIXTEEN, [])), [1, -11] * 15 + counted(SIXTEEN_ANSWERS))

    def test_a_refusal_is_its_number_alone(self):
        refused = [[8, 2, 4, 9], [8, 0, 4, 9], [8, 0, 0, 9], [8, 0, 1, 9], [9, 1000001], [10, 1], [11, 2, 4], [11, 0, 4],
                   [12]]
        self.assertEqual(answers([0, 2, 1, 10, 20] + sum(refused, [])),
                         [1, 0, 1, -2, 1, -22, 1, -2, 1, -6, 1, -22, 1, -6, 1, -2, 1, -22, 1, -33])

    def test_what_is_handed_in_stays_as_it_was(self):
        for handed in (CALLS, sum(SIXTEEN, [])):
            calls = list(handed)
            told = answers(calls)
            self.assertEqual(calls, handed)
            self.assertIsNot(told, calls)

    def test_a_second_time_answers_as_the_first(self):
        first = answers(list(CALLS))
        first.append(99)
        self.assertEqual(answers(list(CALLS)), ANSWERS)
        self.assertEqual(answers([3, 0]), [1, -11])
        for _ in range(2):
            self.assertEqual(answers(sum(SIXTEEN, [])), counted(SIXTEEN_ANSWERS))
        self.assertEqual(answers([15]), [1, -11])

    def test_gives_back_a_list_of_whole_numbers(self):
        for calls in (CALLS, sum(SIXTEEN, [])):
            told = answers(calls)
            self.assertIs(type(told), list)
            for number in told:
                self.assertIs(type(number), int)

    def test_80_calls(self):
        self.assertEqual(answers([4] * 80), [1, -11] * 80)
        calls = [0, 3, 3, 100, 1]
        for s in range(9):
            calls += [1, s, 50 - 6 * s]
        told = answers(calls + [7] * 70)
        self.assertEqual(told[:20], [1, 0] * 10)
        self.assertEqual(told[20:], told[20:23] * 70)
        self.assertEqual(len(told), 20 + 3 * 70)

    def test_80_calls_of_all_kinds(self):
        # Each begin starts anew, so five rounds answer alike.
        self.assertEqual(answers(sum(SIXTEEN * 5, [])), counted(SIXTEEN_ANSWERS) * 5)

    def test_80_calls_that_build_on_one_another(self):
        calls = [0, 2, 1, 3, 4] + [9, 2, 8, 0, 1, 1] * 39 + [15]
        told = answers(calls)
        due = [1, 0]
        for k in range(39):
            due += [1, 7 * k + 6, 1, 7 * k + 7]
        self.assertEqual(told, due + [6, 0, 2, 1, 3, 4, 7 * 39])


if __name__ == "__main__":
    unittest.main()
