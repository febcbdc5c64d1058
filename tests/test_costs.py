"""Promise 2: least, worth, flat."""

import itertools
import unittest

from tests.helper import LARGEST, LITTLE, SMALL, ask, laid, priced, run, searched, searched_flat, some_fields


class Least(unittest.TestCase):
    def test_nothing_to_do(self):
        self.assertEqual(run(("begin", 4, 4, 100, 100), ("least",)), [[0], [0]])
        self.assertEqual(ask((3, 2), (9, 9), [1, 2, 3, 4, 5, 50], [1, 2, 3, 4, 5, 50], "least"), [0])

    def test_one_square(self):
        for level, wanted in itertools.product((0, 1, 7, 50), repeat=2):
            due = (level - wanted) * 5 if level > wanted else (wanted - level) * 3
            self.assertEqual(ask((1, 1), (3, 5), [level], [wanted], "least"), [due])

    def test_squares_are_beside_by_column_and_row(self):
        self.assertEqual(ask((3, 2), (100, 100), [0, 0, 1, 0, 0, 0], [0, 0, 0, 1, 0, 0], "least"), [3])
        self.assertEqual(ask((2, 3), (100, 100), [0, 0, 1, 0, 0, 0], [0, 0, 0, 1, 0, 0], "least"), [1])

    def test_too_much_beside_the_gate_and_too_little_far_off(self):
        for costs in ((1, 1), (100, 1), (1, 100), (100, 100)):
            levels, wanted = [0] * 16, [0] * 16
            levels[1], wanted[15] = 3, 3
            self.assertEqual(ask((4, 4), costs, levels, wanted, "least"), [15])

    def test_one_is_taken_away_and_another_moved(self):
        levels, wanted = [0] * 16, [0] * 16
        levels[1], levels[14], wanted[15] = 1, 1, 1
        self.assertEqual(ask((4, 4), (1, 4), levels, wanted, "least"), [1 + 4 + 1])

    def test_a_gate_at_little_cost_does_not_spare_the_way(self):
        # Taken away and another one brought, each would go by square 0: 3 + 1 + 1 + 3.
        levels, wanted = [0] * 16, [0] * 16
        levels[3], wanted[12] = 1, 1
        self.assertEqual(ask((4, 4), (1, 1), levels, wanted, "least"), [6])
        self.assertEqual(ask((4, 1), (1, 1), [1, 0, 0, 0], [0, 0, 0, 1], "least"), [3])

    def test_one_is_brought_to_the_gate_and_another_moved_past_it(self):
        self.assertEqual(ask((3, 1), (5, 9), [0, 4, 0], [1, 2, 2], "least"), [5 + 2])
        self.assertEqual(ask((3, 1), (5, 9), [3, 0, 0], [0, 2, 2], "least"), [5 + 3 + 2 + 1])

    def test_the_nearest_is_left_to_another_where_that_is_cheaper_in_all(self):
        # Squares 4 and 6 are both beside 5, but 12 is nearer to 4: so 5 fills 6.
        levels, wanted = [0] * 16, [0] * 16
        levels[5], levels[12], wanted[4], wanted[6] = 1, 1, 1, 1
        self.assertEqual(ask((4, 4), (100, 100), levels, wanted, "least"), [1 + 2])
        self.assertEqual(ask((4, 1), (100, 100), [1, 1, 0, 0], [0, 0, 1, 1], "least"), [4])

    def test_all_squares_wanted_at_0(self):
        far = [s % 4 + s // 4 for s in range(16)]
        for levels in ([50] * 16, list(range(16)), [0] * 15 + [50]):
            due = sum(level * (d + 6) for level, d in zip(levels, far))
            self.assertEqual(ask((4, 4), (2, 6), levels, [0] * 16, "least"), [due])

    def test_all_squares_wanted_at_50_from_0(self):
        due = sum(50 * (s % 4 + s // 4 + 100) for s in range(16))
        self.assertEqual(ask((4, 4), (100, 1), [0] * 16, [50] * 16, "least"), [due])

    def test_against_a_plain_search_over_all_of_the_smallest(self):
        for size, highest, costs in itertools.product(((2, 1), (1, 2)), (3,), ((1, 1), (2, 3), (5, 1))):
            states = list(itertools.product(range(highest + 1), repeat=2))
            for levels in states:
                found = searched(size, costs, levels, states)
                for wanted in states:
                    self.assertEqual(ask(size, costs, levels, wanted, "least"), [found[wanted]],
                                     (size, costs, levels, wanted))

    def test_against_a_plain_search_over_all_2_by_2_of_0_and_1(self):
        states = list(itertools.product((0, 1), repeat=4))
        for levels, costs in itertools.product(states, ((1, 1), (1, 3), (4, 2))):
            found = searched((2, 2), costs, levels, states)
            for wanted in states:
                self.assertEqual(ask((2, 2), costs, levels, wanted, "least"), [found[wanted]],
                                 (costs, levels, wanted))

    def test_against_a_plain_search_over_some(self):
        for field in some_fields(1, 60, SMALL + ((4, 1), (1, 4)), 2, LITTLE):
            size, costs, levels, wanted = field
            due = searched(size, costs, levels, [tuple(wanted)])[tuple(wanted)]
            self.assertEqual(ask(*field, "least"), [due], field)

    def test_against_prices_where_a_search_would_be_too_long(self):
        sizes = list(itertools.product(range(1, 5), repeat=2)) + [(4, 4)] * 8
        for highest in (1, 3, 50):
            for field in some_fields(highest, 40, sizes, highest):
                self.assertEqual(ask(*field, "least"), [priced(*field)], field)

    def test_asking_changes_nothing(self):
        field = laid((3, 3), (4, 5), [9, 0, 3, 0, 7, 1, 2, 50, 0], [0, 3, 1, 50, 2, 0, 9, 0, 4])
        asked = [("least",), ("flat",), ("worth", 8), ("sums",)] + [("look", s) for s in range(9)]
        told = run(*field, *asked, *asked)[len(field):]
        self.assertEqual(told[:len(asked)], told[len(asked):])


class Worth(unittest.TestCase):
    def test_more_is_brought(self):
        self.assertEqual(ask((2, 2), (7, 3), [0] * 4, [0] * 4, "worth", 0), [0, 7])
        self.assertEqual(ask((2, 2), (7, 3), [0] * 4, [0] * 4, "worth", 3), [0, 9])

    def test_less_is_taken_away(self):
        self.assertEqual(ask((2, 2), (7, 3), [0, 0, 0, 2], [0] * 4, "worth", 3), [0, -5])
        self.assertEqual(ask((2, 2), (7, 3), [0, 0, 0, 2], [0] * 4, "worth", 0), [0, -3])
        self.assertEqual(ask((1, 1), (100, 100), [50], [0], "worth", 0), [0, -100])

    def test_0_and_less_than_0_where_a_load_is_spared_a_way(self):
        self.assertEqual(ask((4, 4), (1, 1), [0] * 15 + [1], [0] * 16, "worth", 15), [0, -7])
        self.assertEqual(ask((3, 1), (1, 1), [0, 1, 0], [0, 0, 0], "worth", 2), [0, -1])
        self.assertEqual(ask((4, 1), (1, 1), [0, 1, 0, 0], [0, 0, 0, 0], "worth", 3), [0, 0])

    def test_one_square(self):
        self.assertEqual(ask((1, 1), (3, 5), [4], [3], "worth", 0), [0, -5])
        self.assertEqual(ask((1, 1), (3, 5), [4], [4], "worth", 0), [0, 3])

    def test_wanted_at_49_and_at_50(self):
        for level in (0, 50):
            self.assertEqual(ask((1, 2), (3, 5), [0, level], [0, 50], "worth", 1), [-28])
        self.assertEqual(ask((1, 2), (3, 5), [0, 50], [50, 49], "worth", 1), [0, 3 - 1])
        self.assertEqual(ask((1, 2), (3, 5), [0, 50], [50, 49], "worth", 0), [-28])

    def test_no_such_square(self):
        wanted = [50] * 4
        for s, due in ((3, -28), (4, -2), (50, -2), (LARGEST, -2)):
            self.assertEqual(ask((2, 2), (1, 1), [0] * 4, wanted, "worth", s), [due])

    def test_against_a_plain_search(self):
        for size, costs, levels, wanted in some_fields(2, 40, SMALL, 2, LITTLE):
            goals = [tuple(wanted)]
            for s in range(len(wanted)):
                goals.append(tuple(wanted[:s] + [wanted[s] + 1] + wanted[s + 1:]))
            found = searched(size, costs, levels, goals)
            for s in range(len(wanted)):
                due = found[goals[s + 1]] - found[goals[0]]
                self.assertEqual(ask(size, costs, levels, wanted, "worth", s), [0, due],
                                 (size, costs, levels, wanted, s))

    def test_is_what_least_gains(self):
        for size, costs, levels, wanted in some_fields(3, 40, ((4, 4), (4, 3), (2, 4)), 50):
            s = sum(levels) % len(wanted)
            wanted[s] = min(wanted[s], 49)
            told = run(*laid(size, costs, levels, wanted), ("worth", s), ("least",), ("look", s),
                       ("want", s, wanted[s] + 1), ("least",))[-5:]
            self.assertEqual(told[0], [0, told[4][0] - told[1][0]])
            self.assertEqual(told[2], [0, levels[s], wanted[s]])


class Flat(unittest.TestCase):
    def test_all_alike_stays(self):
        for level in (0, 1, 50):
            self.assertEqual(ask((3, 3), (1, 1), [level] * 9, [7] * 9, "flat"), [level, 0])

    def test_one_square(self):
        for level in (0, 13, 50):
            self.assertEqual(ask((1, 1), (1, 1), [level], [0], "flat"), [level, 0])

    def test_what_is_wanted_does_not_matter(self):
        levels = [4, 0, 0, 9]
        told = [ask((2, 2), (2, 3), levels, wanted, "flat") for wanted in ([0] * 4, [50] * 4, [1, 2, 3, 4])]
        self.assertEqual(told[0], told[1])
        self.assertEqual(told[0], told[2])

    def test_of_like_levels_the_least(self):
        # At 0 one load is taken away, at 1 another one is brought and moved on.
        self.assertEqual(ask((2, 1), (1, 1), [1, 0], [0, 0], "flat"), [0, 1])
        self.assertEqual(ask((2, 1), (1, 2), [1, 0], [0, 0], "flat"), [0, 2])
        self.assertEqual(ask((2, 1), (1, 3), [1, 0], [0, 0], "flat"), [1, 2])

    def test_the_highest_and_the_lowest_level(self):
        self.assertEqual(ask((2, 1), (1, 100), [50, 49], [0, 0], "flat"), [50, 1 + 1])
        self.assertEqual(ask((2, 1), (100, 1), [0, 1], [0, 0], "flat"), [0, 1 + 1])

    def test_at_9_squares_and_at_more(self):
        for w, h in itertools.product(range(1, 5), repeat=2):
            told = run(("begin", w, h, 1, 1), ("flat",))[-1]
            self.assertEqual(told, [0, 0] if w * h <= 9 else [-28], (w, h))

    def test_against_a_plain_search(self):
        for size, costs, levels, wanted in some_fields(4, 60, SMALL + ((4, 1), (1, 4)), 3, LITTLE):
            self.assertEqual(ask(size, costs, levels, wanted, "flat"), searched_flat(size, costs, levels),
                             (size, costs, levels))

    def test_against_prices_at_every_level(self):
        for size, costs, levels, wanted in some_fields(5, 8, ((3, 3), (2, 4), (4, 2)), 50):
            due = [priced(size, costs, levels, [level] * len(levels)) for level in range(51)]
            self.assertEqual(ask(size, costs, levels, wanted, "flat"), [due.index(min(due)), min(due)],
                             (size, costs, levels))


if __name__ == "__main__":
    unittest.main()
