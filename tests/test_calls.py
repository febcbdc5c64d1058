"""Promise 1: begin, ground, want, look, sums."""

import itertools
import unittest

from tests.helper import LARGEST, laid, run


class Begin(unittest.TestCase):
    def test_sides_and_costs_at_their_edges(self):
        sides = {0: False, 1: True, 2: True, 3: True, 4: True, 5: False, LARGEST: False}
        costs = {0: False, 1: True, 50: True, 100: True, 101: False, LARGEST: False}
        for w, h, bring, take in itertools.product(sides, sides, costs, costs):
            good = sides[w] and sides[h] and costs[bring] and costs[take]
            with self.subTest(w=w, h=h, bring=bring, take=take):
                self.assertEqual(run(("begin", w, h, bring, take)), [[0 if good else -22]])

    def test_all_levels_and_wanted_ones_are_0(self):
        for w, h in itertools.product(range(1, 5), repeat=2):
            looks = [("look", s) for s in range(w * h + 1)]
            told = run(("begin", w, h, 1, 100), *looks)
            self.assertEqual(told, [[0]] + [[0, 0, 0]] * (w * h) + [[-2]])

    def test_all_else_is_minus_11_before_it(self):
        calls = [("ground", 0, 0), ("want", 0, 0), ("look", 0), ("sums",), ("least",), ("worth", 0),
                 ("flat",), ("move", 0, 1, 1), ("bring", 1), ("take", 1), ("wise", 0, 1), ("next",),
                 ("done",), ("steep", 0), ("state",)]
        self.assertEqual(run(*calls), [[-11]] * len(calls))
        for call in calls:
            self.assertEqual(run(call), [[-11]])
        told = run(("begin", 5, 1, 1, 1), *calls)
        self.assertEqual(told, [[-22]] + [[-11]] * len(calls))

    def test_minus_11_comes_ahead_of_all_other_refusals(self):
        calls = [("ground", 99, 99), ("want", LARGEST, LARGEST), ("look", 16), ("worth", 16)]
        self.assertEqual(run(*calls), [[-11]] * 4)

    def test_refused_calls_before_it_leave_nothing_behind(self):
        told = run(("ground", 0, 7), ("want", 0, 8), ("begin", 0, 1, 1, 1), ("begin", 1, 1, 1, 1), ("look", 0))
        self.assertEqual(told, [[-11], [-11], [-22], [0], [0, 0, 0]])

    def test_again_it_begins_anew(self):
        told = run(*laid((2, 1), (3, 4), [5, 6], [7, 8]), ("begin", 1, 3, 9, 8),
                   ("look", 0), ("look", 1), ("look", 2), ("look", 3), ("sums",), ("least",),
                   ("ground", 2, 1), ("least",), ("want", 0, 2), ("least",))
        self.assertEqual(told[5:], [[0], [0, 0, 0], [0, 0, 0], [0, 0, 0], [-2], [0, 0, 0], [0],
                                    [0], [10], [0], [2 + 9]])

    def test_again_but_refused_it_changes_nothing(self):
        for refused in [("begin", 0, 2, 1, 1), ("begin", 2, 5, 1, 1), ("begin", 1, 1, 0, 1), ("begin", 1, 1, 1, 101)]:
            told = run(*laid((2, 1), (3, 4), [5, 6], [7, 2]), refused,
                       ("look", 0), ("look", 1), ("look", 2), ("least",))
            self.assertEqual(told[5:], [[-22], [0, 5, 7], [0, 6, 2], [-2], [2 * 1 + 2 * (1 + 4)]])


class GroundAndWant(unittest.TestCase):
    def test_answer_what_it_was(self):
        for call in ("ground", "want"):
            told = run(("begin", 2, 2, 1, 1), (call, 3, 4), (call, 3, 50), (call, 3, 0), (call, 3, 9))
            self.assertEqual(told, [[0], [0], [4], [50], [0]])

    def test_each_keeps_to_its_own_square_and_kind(self):
        told = run(("begin", 2, 2, 1, 1), ("ground", 1, 4), ("want", 2, 5), ("ground", 2, 6), ("want", 1, 7),
                   ("look", 0), ("look", 1), ("look", 2), ("look", 3))
        self.assertEqual(told[3:], [[0], [0], [0, 0, 0], [0, 4, 7], [0, 6, 5], [0, 0, 0]])

    def test_levels_at_their_edge(self):
        for call, level in itertools.product(("ground", "want"), (50, 51, 100, LARGEST)):
            told = run(("begin", 1, 1, 1, 1), (call, 0, level), (call, 0, 1))
            self.assertEqual(told, [[0], [0], [50]] if level == 50 else [[0], [-22], [0]])

    def test_squares_at_their_edge(self):
        for call, w, h in itertools.product(("ground", "want"), range(1, 5), range(1, 5)):
            told = run(("begin", w, h, 1, 1), (call, w * h - 1, 1), (call, w * h, 1), (call, LARGEST, 1))
            self.assertEqual(told, [[0], [0], [-2], [-2]])

    def test_no_such_square_comes_ahead_of_too_high(self):
        for call in ("ground", "want"):
            told = run(("begin", 2, 3, 1, 1), (call, 6, 51), (call, LARGEST, LARGEST), (call, 5, 51))
            self.assertEqual(told, [[0], [-2], [-2], [-22]])

    def test_a_refusal_changes_nothing(self):
        field = laid((2, 1), (1, 1), [3, 4], [5, 6])
        looks = [("look", 0), ("look", 1), ("sums",), ("least",)]
        refused = [("ground", 0, 51), ("want", 1, 51), ("ground", 2, 1), ("want", 2, 1), ("look", 2), ("worth", 2)]
        told = run(*field, *looks, *refused, *looks)
        self.assertEqual(told[5:9], [[0, 3, 5], [0, 4, 6], [0, 0, 4], [6]])
        self.assertEqual(told[9:15], [[-22], [-22], [-2], [-2], [-2], [-2]])
        self.assertEqual(told[15:], told[5:9])


class LookAndSums(unittest.TestCase):
    def test_look_at_each_square_and_behind_the_last(self):
        told = run(*laid((3, 2), (1, 1), [1, 2, 3, 4, 5, 50], [50, 11, 12, 13, 14, 15]),
                   *[("look", s) for s in (0, 1, 2, 3, 4, 5, 6, LARGEST)])
        self.assertEqual(told[13:], [[0, 1, 50], [0, 2, 11], [0, 3, 12], [0, 4, 13], [0, 5, 14], [0, 50, 15],
                                     [-2], [-2]])

    def test_sums_are_not_set_off_against_each_other(self):
        self.assertEqual(run(*laid((2, 2), (1, 1), [9, 0, 4, 1], [2, 5, 3, 1]), ("sums",))[-1], [0, 8, 5])

    def test_sums_when_all_is_as_wanted_and_at_the_most(self):
        self.assertEqual(run(("begin", 4, 4, 1, 1), ("sums",))[-1], [0, 0, 0])
        self.assertEqual(run(*laid((4, 4), (1, 1), [50] * 16, [0] * 16), ("sums",))[-1], [0, 800, 0])
        self.assertEqual(run(*laid((4, 4), (1, 1), [0] * 16, [50] * 16), ("sums",))[-1], [0, 0, 800])


if __name__ == "__main__":
    unittest.main()
