"""Promise 3: move, bring, take."""

import itertools
import time
import unittest

from tests.helper import LARGEST, ask, due_next, due_wise, laid, priced, run

MILLION = 1000000
SIZES = list(itertools.product(range(1, 5), repeat=2))


def looks(squares):
    return [("look", s) for s in range(squares)]


def levels_behind(size, levels, *calls):
    """The levels that the calls leave behind on a field that had these."""
    told = run(*laid(size, (3, 5), levels, [0] * len(levels)), *calls, *looks(len(levels)))
    return [told[-len(levels) + s][1] for s in range(len(levels))]


class Move(unittest.TestCase):
    def test_answers_what_was_spent_so_far(self):
        told = run(*laid((2, 2), (50, 60), [9, 0, 0, 0], [0] * 4), ("move", 0, 1, 4), ("move", 1, 2, 3),
                   ("move", 0, 2, 5), ("move", 3, 3, 1), ("move", 2, 0, 6), ("state",))
        self.assertEqual(told[9:], [[4], [7], [12], [13], [19], [0, 2, 2, 50, 60, 19]])

    def test_the_loads_are_there_and_no_longer_here(self):
        levels = [10, 11, 12, 13, 14, 15, 16, 17, 18]
        for d, there in ((0, 1), (1, 5), (2, 7), (3, 3)):
            due = list(levels)
            due[4] -= 6
            due[there] += 6
            self.assertEqual(levels_behind((3, 3), levels, ("move", 4, d, 6)), due)

    def test_each_way_from_each_square_of_each_size(self):
        for (w, h), s, d in itertools.product(SIZES, range(16), range(4)):
            if s >= w * h:
                continue
            x, y = s % w + (d == 1) - (d == 3), s // w + (d == 2) - (d == 0)
            levels = [3] * (w * h)
            due = list(levels)
            inside = 0 <= x < w and 0 <= y < h
            if inside:
                due[s] -= 2
                due[w * y + x] += 2
            with self.subTest(w=w, h=h, s=s, d=d):
                told = ask((w, h), (1, 1), levels, levels, "move", s, d, 2)
                self.assertEqual(told, [2] if inside else [-2])
                self.assertEqual(levels_behind((w, h), levels, ("move", s, d, 2)), due)

    def test_ways_at_their_edge(self):
        for d, due in ((3, 1), (4, -22), (5, -22), (LARGEST, -22)):
            self.assertEqual(ask((2, 1), (1, 1), [1, 1], [0, 0], "move", 1, d, 1), [due])

    def test_squares_at_their_edge(self):
        for w, h in SIZES:
            levels = [1] * (w * h)
            for s in (w * h, w * h + 1, LARGEST):
                self.assertEqual(ask((w, h), (1, 1), levels, levels, "move", s, 0, 0), [-2])

    def test_loads_at_their_edge(self):
        for n, due in ((0, 0), (1, 1), (6, 6), (7, 7), (8, -6), (LARGEST, -6)):
            self.assertEqual(ask((2, 1), (1, 1), [7, 9], [0, 0], "move", 0, 1, n), [due])
        self.assertEqual(ask((2, 1), (1, 1), [0, 9], [0, 0], "move", 0, 1, 1), [-6])

    def test_no_load_may_be_moved_from_a_square_that_has_none(self):
        told = run(("begin", 1, 2, 1, 1), ("move", 0, 2, 0), ("move", 1, 0, 0), ("state",))
        self.assertEqual(told[1:], [[0], [0], [0, 1, 2, 1, 1, 0]])

    def test_no_such_square_comes_first(self):
        for s, d, n in itertools.product((2, 4, LARGEST), (0, 3, 4, LARGEST), (0, 1, LARGEST)):
            self.assertEqual(ask((2, 1), (1, 1), [0, 0], [0, 0], "move", s, d, n), [-2])

    def test_no_such_way_comes_ahead_of_too_few_loads(self):
        for s, d, n in itertools.product((0, 1), (4, LARGEST), (0, 1, LARGEST)):
            self.assertEqual(ask((2, 1), (1, 1), [0, 0], [0, 0], "move", s, d, n), [-22])

    def test_no_square_that_way_comes_ahead_of_too_few_loads(self):
        for d, n in itertools.product((0, 2, 3), (0, 1, LARGEST)):
            self.assertEqual(ask((2, 1), (1, 1), [0, 0], [0, 0], "move", 0, d, n), [-2])


class BringAndTake(unittest.TestCase):
    def test_bring_answers_what_was_spent_so_far(self):
        told = run(("begin", 2, 1, 7, 9), ("bring", 3), ("bring", 0), ("bring", 1), ("look", 0), ("look", 1))
        self.assertEqual(told[1:], [[21], [21], [28], [0, 4, 0], [0, 0, 0]])

    def test_take_answers_what_was_spent_so_far(self):
        told = run(*laid((2, 1), (7, 9), [5, 5], [0, 0]), ("take", 3), ("take", 0), ("take", 1), ("look", 0), ("look", 1))
        self.assertEqual(told[5:], [[27], [27], [36], [0, 1, 0], [0, 5, 0]])

    def test_all_three_add_up(self):
        told = run(("begin", 2, 1, 100, 30), ("bring", 4), ("move", 0, 1, 3), ("take", 1), ("move", 1, 3, 2),
                   ("take", 2), ("bring", 1), ("state",), ("look", 0), ("look", 1))
        self.assertEqual(told[1:], [[400], [403], [433], [435], [495], [595], [0, 2, 1, 100, 30, 595],
                                    [0, 1, 0], [0, 1, 0]])

    def test_bring_at_its_edge(self):
        for n, due in ((MILLION - 1, 3 * MILLION - 3), (MILLION, 3 * MILLION), (MILLION + 1, -22), (LARGEST, -22)):
            told = run(("begin", 1, 1, 3, 5), ("bring", n), ("look", 0))
            self.assertEqual(told[1:], [[due], [0, n if due > 0 else 0, 0]])

    def test_take_at_its_edge(self):
        for n, due in ((0, 0), (6, 30), (7, 35), (8, -6), (MILLION + 1, -6), (LARGEST, -6)):
            self.assertEqual(ask((2, 1), (3, 5), [7, 50], [0, 0], "take", n), [due])
        self.assertEqual(ask((1, 1), (3, 5), [0], [0], "take", 1), [-6])
        self.assertEqual(ask((1, 1), (3, 5), [0], [0], "take", 0), [0])

    def test_take_has_no_other_bound_than_what_is_there(self):
        told = run(("begin", 1, 1, 1, 2), ("bring", MILLION), ("bring", MILLION), ("take", 2 * MILLION + 1),
                   ("take", 2 * MILLION), ("look", 0))
        self.assertEqual(told[3:], [[-6], [6 * MILLION], [0, 0, 0]])

    def test_at_the_highest_cost(self):
        told = run(("begin", 4, 4, 100, 100), *[("bring", MILLION)] * 60, ("take", 60 * MILLION))
        self.assertEqual(told[1:61], [[100 * MILLION * k] for k in range(1, 61)])
        self.assertEqual(told[61], [12000 * MILLION])


class Spent(unittest.TestCase):
    def test_a_begin_makes_it_0_again(self):
        told = run(("begin", 1, 1, 7, 9), ("bring", 3), ("begin", 2, 1, 2, 3), ("state",), ("look", 0), ("bring", 1))
        self.assertEqual(told[1:], [[21], [0], [0, 2, 1, 2, 3, 0], [0, 0, 0], [2]])

    def test_a_refused_begin_does_not(self):
        told = run(("begin", 1, 1, 7, 9), ("bring", 3), ("begin", 2, 1, 2, 0), ("state",), ("bring", 1))
        self.assertEqual(told[1:], [[21], [-22], [0, 1, 1, 7, 9, 21], [28]])

    def test_telling_levels_and_asking_cost_nothing(self):
        told = run(("begin", 2, 1, 7, 9), ("bring", 3), ("ground", 1, 9), ("want", 0, 50), ("sums",), ("least",),
                   ("worth", 1), ("flat",), ("wise", 1, 3), ("next",), ("done",), ("steep", 0), ("look", 0),
                   ("state",))
        self.assertEqual(told[-1], [0, 2, 1, 7, 9, 21])

    def test_a_refusal_changes_nothing(self):
        shown = looks(4) + [("sums",), ("least",), ("next",), ("done",), ("state",)]
        refused = [("move", 4, 0, 0), ("move", 0, 4, 1), ("move", 0, 0, 1), ("move", 0, 1, 5), ("bring", MILLION + 1),
                   ("take", 5), ("wise", 4, 0), ("wise", 0, 4), ("begin", 5, 1, 1, 1)]
        told = run(*laid((2, 2), (3, 5), [3, 1, 0, 2], [1, 0, 7, 0]), ("bring", 1), *shown, *refused, *shown)[10:]
        self.assertEqual(told[8], [0, 2, 2, 3, 5, 3])
        self.assertEqual(told[9:18], [[-2], [-22], [-2], [-6], [-22], [-6], [-2], [-22], [-22]])
        self.assertEqual(told[18:], told[:9])


class FarAbove50(unittest.TestCase):
    """Levels as many brings one behind another make them; what is due is told by prices."""

    SIZE, COSTS = (3, 3), (2, 7)
    SPREAD = [("move", 0, 1, 31000007), ("move", 1, 2, 17000003), ("move", 4, 2, 5000001), ("move", 7, 1, 777),
              ("move", 1, 1, 9), ("move", 0, 2, 1000), ("move", 3, 2, 50)]
    WANTED = [50, 0, 50, 3, 50, 17, 0, 0, 50]

    def levels(self):
        told = run(*self.field(), *looks(9))[-9:]
        return tuple(level for zero, level, wanted in told)

    def field(self):
        wants = [("want", s, level) for s, level in enumerate(self.WANTED)]
        return [("begin",) + self.SIZE + self.COSTS] + wants + [("bring", MILLION)] * 40 + self.SPREAD

    def left(self, levels):
        return priced(self.SIZE, self.COSTS, levels, self.WANTED)

    def test_levels(self):
        self.assertEqual(self.levels(), (40 * MILLION - 31000007 - 1000, 31000007 - 17000003 - 9, 9, 950,
                                         17000003 - 5000001, 0, 50, 5000001 - 777, 777))
        spent = 80 * MILLION + 31000007 + 17000003 + 5000001 + 777 + 9 + 1000 + 50
        self.assertEqual(run(*self.field(), ("state",))[-1], [0, 3, 3, 2, 7, spent])

    def test_ground_tells_what_it_was_and_sets_it(self):
        told = run(*self.field(), ("ground", 4, 51), ("ground", 4, 50), ("look", 4))
        self.assertEqual(told[-3:], [[-22], [12000002], [0, 50, 50]])

    def test_least(self):
        self.assertEqual(run(*self.field(), ("least",))[-1], [self.left(self.levels())])

    def test_worth(self):
        levels = self.levels()
        for s, wanted in enumerate(self.WANTED):
            raised = list(self.WANTED)
            raised[s] += 1
            due = [0, priced(self.SIZE, self.COSTS, levels, raised) - self.left(levels)] if wanted < 50 else [-28]
            self.assertEqual(run(*self.field(), ("worth", s))[-1], due)

    def test_flat(self):
        levels = self.levels()
        due = [priced(self.SIZE, self.COSTS, levels, [level] * 9) for level in range(51)]
        self.assertEqual(run(*self.field(), ("flat",))[-1], [due.index(min(due)), min(due)])

    def test_wise_and_next(self):
        levels = self.levels()
        for s, d in itertools.product(range(9), range(4)):
            self.assertEqual(run(*self.field(), ("wise", s, d))[-1], due_wise(self.SIZE, levels, self.left, s, d))
        self.assertEqual(run(*self.field(), ("next",))[-1],
                         due_next(self.SIZE, self.COSTS, levels, self.WANTED, self.left))

    def test_all_of_it_at_the_gate_of_a_large_field(self):
        wants = [("want", s, 50) for s in range(1, 16)]
        calls = [("begin", 4, 4, 1, 100)] + wants + [("bring", MILLION)] * 59
        ways = sum(50 * (s % 4 + s // 4) for s in range(1, 16))
        told = run(*calls, ("least",), ("next",), ("wise", 0, 1), ("wise", 0, 2), ("worth", 0))[-5:]
        self.assertEqual(told, [[ways + 100 * (59 * MILLION - 750)], [0, 0, 1], [1], [1], [0, -100]])

    def test_all_of_it_far_off_from_the_gate(self):
        bring = [("begin", 4, 4, 1, 100)] + [("bring", MILLION)] * 60
        moves = [("move", s, 1, 60 * MILLION) for s in range(3)] + [("move", s, 2, 60 * MILLION) for s in (3, 7, 11)]
        told = run(*bring, *moves, ("least",), ("next",), ("wise", 15, 3), ("wise", 15, 0), ("worth", 15))[-5:]
        self.assertEqual(told, [[106 * 60 * MILLION], [0, 15, 0], [1], [1], [0, -106]])

    def test_each_is_answered_at_once(self):
        # Far more than is needed; going load by load would take hours.
        started = time.process_time()
        run(*self.field(), ("least",), ("flat",), ("worth", 1), ("wise", 4, 0), ("next",), ("done",), ("sums",))
        self.assertLess(time.process_time() - started, 5)


if __name__ == "__main__":
    unittest.main()
