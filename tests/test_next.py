"""Promise 4: wise, next, done, steep, state."""

import itertools
import unittest

from tests.helper import (LARGEST, LITTLE, SMALL, after, ask, due_next, due_wise, laid, priced, run, searched_left,
                          some_fields)

ALL_SIZES = list(itertools.product(range(1, 5), repeat=2))


class Wise(unittest.TestCase):
    def test_each_way(self):
        for d, there in ((0, 1), (1, 5), (2, 7), (3, 3)):
            levels, wanted = [0] * 9, [0] * 9
            levels[4], wanted[there] = 1, 1
            told = [ask((3, 3), (9, 9), levels, wanted, "wise", 4, way) for way in range(4)]
            self.assertEqual(told, [[1 if way == d else 0] for way in range(4)])

    def test_more_than_one_way(self):
        levels, wanted = [1] + [0] * 8, [0] * 8 + [1]
        told = [ask((3, 3), (9, 9), levels, wanted, "wise", 0, d) for d in range(4)]
        self.assertEqual(told, [[0], [1], [1], [0]])

    def test_no_square_that_way(self):
        for w, h in ALL_SIZES:
            levels = [50] * (w * h)
            for x, y in itertools.product(range(w), range(h)):
                outside = [d for d in range(4) if (y == 0, x == w - 1, y == h - 1, x == 0)[d]]
                for d in outside:
                    self.assertEqual(ask((w, h), (1, 1), levels, [0] * (w * h), "wise", w * y + x, d), [0])

    def test_no_load(self):
        # One brought would be moved on that way, but none lies there yet.
        self.assertEqual(ask((2, 1), (1, 1), [0, 0], [0, 1], "wise", 0, 1), [0])
        self.assertEqual(ask((2, 1), (1, 1), [1, 0], [0, 1], "wise", 0, 1), [1])
        self.assertEqual(ask((2, 1), (1, 1), [0, 1], [1, 0], "wise", 0, 1), [0])

    def test_a_load_that_is_wanted_here_may_be_moved_on(self):
        # The one missing on square 2 costs the same from square 1, which square 0 then fills.
        told = [ask((3, 1), (9, 9), [2, 1, 0], [1, 1, 1], "wise", s, 1) for s in (0, 1)]
        self.assertEqual(told, [[1], [1]])

    def test_a_load_that_is_brought_anyway_may_be_moved_on_ahead(self):
        self.assertEqual(ask((2, 1), (9, 9), [1, 0], [1, 1], "wise", 0, 1), [1])

    def test_what_is_too_much_is_wise_to_move_to_the_gate(self):
        told = [ask((2, 2), (1, 1), [0, 0, 0, 1], [0] * 4, "wise", 3, d) for d in range(4)]
        self.assertEqual(told, [[1], [0], [0], [1]])

    def test_nothing_is_when_all_is_as_wanted(self):
        for s, d in itertools.product(range(4), range(4)):
            self.assertEqual(ask((2, 2), (1, 1), [3] * 4, [3] * 4, "wise", s, d), [0])

    def test_one_square(self):
        for d, (level, wanted) in itertools.product(range(4), ((0, 5), (5, 0), (5, 5))):
            self.assertEqual(ask((1, 1), (1, 1), [level], [wanted], "wise", 0, d), [0])

    def test_refusals_at_their_edges_and_their_order(self):
        for s, d, due in ((3, 3, 1), (3, 4, -22), (3, LARGEST, -22), (4, 3, -2), (4, 4, -2), (LARGEST, LARGEST, -2),
                          (0, 4, -22), (4, 0, -2)):
            self.assertEqual(ask((2, 2), (1, 1), [0, 0, 0, 1], [0] * 4, "wise", s, d), [due])


class Next(unittest.TestCase):
    def test_the_first_square_and_its_first_way(self):
        self.assertEqual(ask((3, 3), (9, 9), [1] + [0] * 8, [0] * 8 + [1], "next"), [0, 0, 1])
        self.assertEqual(ask((3, 3), (9, 9), [0] * 8 + [1], [1] + [0] * 8, "next"), [0, 8, 0])
        self.assertEqual(ask((2, 2), (9, 9), [0, 2, 2, 0], [2, 0, 0, 2], "next"), [0, 1, 2])
        self.assertEqual(ask((2, 2), (9, 9), [0, 0, 1, 1], [0, 0, 2, 0], "next"), [0, 3, 3])

    def test_a_move_comes_ahead_of_bringing_and_taking_away(self):
        self.assertEqual(ask((3, 1), (1, 1), [0, 0, 1], [1, 1, 0], "next"), [0, 2, 3])
        self.assertEqual(ask((3, 1), (1, 1), [5, 0, 1], [0, 0, 0], "next"), [0, 2, 3])
        self.assertEqual(ask((2, 1), (1, 1), [1, 0], [1, 1], "next"), [0, 0, 1])

    def test_only_bringing_is_wise(self):
        for w, h in ALL_SIZES:
            squares = w * h
            self.assertEqual(ask((w, h), (100, 1), [0] * squares, [0] * (squares - 1) + [1], "next"), [0, 0, 4])
        self.assertEqual(ask((1, 1), (1, 1), [49], [50], "next"), [0, 0, 4])

    def test_only_taking_away_is_wise(self):
        for w, h in ALL_SIZES:
            squares = w * h
            self.assertEqual(ask((w, h), (1, 100), [1] + [0] * (squares - 1), [0] * squares, "next"), [0, 0, 5])
        self.assertEqual(ask((1, 1), (1, 1), [50], [49], "next"), [0, 0, 5])

    def test_all_is_as_wanted(self):
        for w, h in ALL_SIZES:
            squares = w * h
            self.assertEqual(run(("begin", w, h, 1, 1), ("next",))[-1], [-33])
            self.assertEqual(ask((w, h), (1, 1), [50] * squares, [50] * squares, "next"), [-33])
        told = run(("begin", 2, 1, 1, 1), ("want", 1, 1), ("bring", 1), ("next",), ("move", 0, 1, 1), ("next",))
        self.assertEqual(told[3:], [[0, 0, 1], [2], [-33]])


class AgainstASearch(unittest.TestCase):
    def check(self, size, costs, levels, wanted):
        levels = tuple(levels)
        states = [levels] + [state for cost, state in after(size, costs, levels)]
        found = searched_left(size, costs, wanted, states)
        steps = list(itertools.product(range(len(levels)), range(4)))
        asked = [("wise", s, d) for s, d in steps] + [("next",)]
        told = run(*laid(size, costs, levels, wanted), *asked)[-len(asked):]
        due = [due_wise(size, levels, found.get, s, d) for s, d in steps]
        due.append(due_next(size, costs, levels, wanted, found.get))
        self.assertEqual(told, due, (size, costs, levels, wanted))

    def test_all_of_the_smallest(self):
        states = list(itertools.product(range(3), repeat=2))
        for size, costs in itertools.product(((2, 1), (1, 2)), ((1, 1), (2, 3), (3, 1))):
            for levels, wanted in itertools.product(states, repeat=2):
                self.check(size, costs, levels, wanted)

    def test_all_2_by_2_of_0_and_1(self):
        states = list(itertools.product((0, 1), repeat=4))
        for levels, wanted in itertools.product(states, repeat=2):
            self.check((2, 2), (1, 2), levels, wanted)

    def test_some(self):
        for field in some_fields(6, 60, SMALL + ((4, 1), (1, 4)), 2, LITTLE):
            self.check(*field)


class AgainstPrices(unittest.TestCase):
    def test_next_where_a_search_would_be_too_long(self):
        for size, costs, levels, wanted in some_fields(7, 20, [(2, 3), (4, 2), (3, 3)], 50):
            due = due_next(size, costs, levels, wanted, lambda state: priced(size, costs, state, wanted))
            self.assertEqual(ask(size, costs, levels, wanted, "next"), due, (size, costs, levels, wanted))

    def test_wise_where_a_search_would_be_too_long(self):
        for size, costs, levels, wanted in some_fields(8, 20, [(4, 4), (3, 4)], 3):
            s, d = sum(levels) % len(levels), sum(wanted) % 4
            due = due_wise(size, levels, lambda state: priced(size, costs, state, wanted), s, d)
            self.assertEqual(ask(size, costs, levels, wanted, "wise", s, d), due, (size, costs, levels, wanted, s, d))


class Done(unittest.TestCase):
    def test_all_is_as_wanted_or_not(self):
        self.assertEqual(run(("begin", 4, 4, 1, 1), ("done",)), [[0], [1]])
        for s in range(6):
            levels = [7] * 6
            for level in (6, 8):
                levels[s] = level
                self.assertEqual(ask((3, 2), (1, 1), levels, [7] * 6, "done"), [0])
        self.assertEqual(ask((3, 2), (1, 1), [7] * 6, [7] * 6, "done"), [1])

    def test_like_sums_are_not_enough(self):
        self.assertEqual(ask((2, 1), (1, 1), [1, 0], [0, 1], "done"), [0])

    def test_by_moving_bringing_and_taking_away(self):
        told = run(("begin", 2, 1, 1, 1), ("want", 1, 1), ("done",), ("bring", 2), ("done",), ("move", 0, 1, 1),
                   ("done",), ("take", 1), ("done",), ("bring", 1), ("done",))
        self.assertEqual(told[2::2], [[0], [0], [0], [1], [0]])


class Steep(unittest.TestCase):
    def test_at_a_difference_and_one_below_it(self):
        for wanted in ([3, 10], [10, 3]):
            for size in ((2, 1), (1, 2)):
                for k, due in ((0, [1, 0, 1]), (6, [1, 0, 1]), (7, [0]), (8, [0]), (LARGEST, [0])):
                    self.assertEqual(ask(size, (1, 1), [0, 0], wanted, "steep", k), due)

    def test_at_0_like_ones_are_not_told(self):
        self.assertEqual(ask((2, 2), (1, 1), [1, 2, 3, 4], [5, 5, 5, 5], "steep", 0), [0])
        self.assertEqual(ask((2, 2), (1, 1), [0] * 4, [5, 5, 5, 6], "steep", 0), [2, 1, 3, 2, 3])

    def test_its_order(self):
        wanted = [0, 9, 0, 9, 0, 9]
        self.assertEqual(ask((3, 2), (1, 1), [0] * 6, wanted, "steep", 8),
                         [7, 0, 1, 0, 3, 1, 2, 1, 4, 2, 5, 3, 4, 4, 5])
        self.assertEqual(ask((2, 3), (1, 1), [0] * 6, [0, 9, 9, 0, 0, 9], "steep", 8),
                         [7, 0, 1, 0, 2, 1, 3, 2, 3, 2, 4, 3, 5, 4, 5])

    def test_a_row_s_end_is_not_beside_the_next_row_s_beginning(self):
        self.assertEqual(ask((2, 2), (1, 1), [0] * 4, [0, 0, 9, 9], "steep", 0), [2, 0, 2, 1, 3])

    def test_levels_do_not_matter(self):
        told = [ask((3, 1), (1, 1), levels, [0, 5, 20], "steep", 5) for levels in ([0] * 3, [50, 0, 50])]
        self.assertEqual(told, [[1, 1, 2]] * 2)

    def test_none_and_all(self):
        self.assertEqual(run(("begin", 1, 1, 1, 1), ("want", 0, 50), ("steep", 0))[-1], [0])
        self.assertEqual(run(("begin", 4, 4, 1, 1), ("steep", 0))[-1], [0])
        board = [50 * ((s % 4 + s // 4) % 2) for s in range(16)]
        told = ask((4, 4), (1, 1), [0] * 16, board, "steep", 49)
        self.assertEqual((told[0], len(told)), (24, 49))
        self.assertEqual(ask((4, 4), (1, 1), [0] * 16, board, "steep", 50), [0])


class State(unittest.TestCase):
    def test_what_was_begun(self):
        for w, h in ALL_SIZES:
            for bring, take in ((1, 100), (100, 1), (30, 40)):
                told = run(("begin", w, h, bring, take), ("state",))
                self.assertEqual(told[-1], [0, w, h, bring, take, 0])

    def test_what_was_spent(self):
        told = run(("begin", 2, 3, 30, 40), ("bring", 3), ("state",), ("take", 1), ("state",), ("move", 0, 1, 2),
                   ("state",), ("move", 0, 1, 1), ("state",))
        self.assertEqual([answer[-1] for answer in told[2::2]], [90, 130, 132, 132])


if __name__ == "__main__":
    unittest.main()
