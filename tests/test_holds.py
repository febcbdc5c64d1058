"""What holds over the whole program, whatever is moved, brought and taken away."""

import itertools
import random
import unittest

from tests.helper import LITTLE, laid, run, some_fields

ALL_SIZES = list(itertools.product(range(1, 5), repeat=2))


def call_of(answer):
    """The call that does what next answered."""
    zero, s, way = answer
    return {4: ("bring", 1), 5: ("take", 1)}.get(way, ("move", s, way, 1))


def levels_in(looks):
    return [level for zero, level, wanted in looks]


class FollowingNext(unittest.TestCase):
    def follow(self, size, costs, levels, wanted):
        """Does what next answers, each in a line of its own, and gives back what was spent in all."""
        looks = [("look", s) for s in range(len(levels))]
        spent = 0
        while True:
            field = laid(size, costs, levels, wanted)
            done, least, following = run(*field, ("done",), ("least",), ("next",))[-3:]
            self.assertEqual(done == [1], levels == wanted)
            self.assertEqual(least == [0], levels == wanted)
            if following == [-33]:
                self.assertEqual(levels, wanted)
                return spent
            wise = [("wise", following[1], following[2])] if following[2] < 4 else []
            told = run(*field, *wise, call_of(following), ("least",), *looks)[len(field):]
            if wise:
                self.assertEqual(told.pop(0), [1])
            cost, left = told[0][0], told[1][0]
            self.assertEqual(left, least[0] - cost, (size, costs, levels, wanted, following))
            spent += cost
            levels = levels_in(told[2:])

    def test_comes_to_the_end_for_just_what_least_answered(self):
        for w, h in ALL_SIZES:
            for field in some_fields(10 * w + h, 3, [(w, h)], 2):
                least = run(*laid(*field), ("least",))[-1][0]
                self.assertEqual(self.follow(*field), least, field)

    def test_from_all_empty_and_to_all_empty(self):
        for size in ((1, 1), (1, 4), (3, 2), (4, 4)):
            squares = size[0] * size[1]
            for levels, wanted in (([0] * squares, [2] * squares), ([2] * squares, [0] * squares)):
                least = run(*laid(size, (5, 3), levels, wanted), ("least",))[-1][0]
                self.assertEqual(self.follow(size, (5, 3), levels, wanted), least)

    def test_too_much_beside_the_gate_and_too_little_far_off(self):
        levels, wanted = [0] * 16, [0] * 16
        levels[1], wanted[15] = 3, 3
        self.assertEqual(self.follow((4, 4), (1, 1), levels, wanted), 15)

    def test_in_one_line(self):
        calls = [("begin", 2, 2, 5, 7), ("ground", 1, 2), ("want", 3, 3), ("want", 0, 1)]
        least = run(*calls, ("least",))[-1]
        following = run(*calls, ("next",))[-1]
        while following != [-33]:
            calls.append(call_of(following))
            following = run(*calls, ("next",))[-1]
        self.assertEqual(run(*calls)[-1], least)
        self.assertEqual(run(*calls, ("state",), ("done",), ("least",))[-3:], [[0, 2, 2, 5, 7] + least, [1], [0]])


class SpentAndLeft(unittest.TestCase):
    def some_call(self, pick, squares):
        kind = pick.choice(("move", "move", "move", "bring", "take"))
        n = pick.choice((0, 1, 1, 2, 5, 30))
        if kind == "move":
            return kind, pick.randrange(squares), pick.randrange(4), n
        return kind, n

    def test_never_fall_together(self):
        pick = random.Random(9)
        for field in [f for size in ALL_SIZES for f in some_fields(sum(size), 6, [size], 6, LITTLE + (100,))]:
            lay = laid(*field)
            calls = [self.some_call(pick, len(field[2])) for _ in range((80 - len(lay)) // 3)]
            asked = [call for call_made in calls for call in (call_made, ("state",), ("least",))]
            told = run(*lay, ("least",), *asked[:-3])[len(lay):]
            spent, left = 0, told[0][0]
            for made, state, least in zip(told[1::3], told[2::3], told[3::3]):
                self.assertGreaterEqual(state[-1], spent)
                self.assertGreaterEqual(state[-1] + least[0], spent + left)
                if made[0] < 0:
                    self.assertEqual((state[-1], least[0]), (spent, left))
                else:
                    self.assertEqual(made, [state[-1]])
                spent, left = state[-1], least[0]

    def test_a_wise_move_of_one_load_leaves_their_sum_as_it_was_and_no_other_does(self):
        for size, costs, levels, wanted in some_fields(12, 12, [(2, 2), (3, 2), (4, 4)], 3):
            lay = laid(size, costs, levels, wanted)
            for s, d in itertools.product(range(len(levels)), range(4)):
                before, wise, made, behind = run(*lay, ("least",), ("wise", s, d), ("move", s, d, 1), ("least",))[-4:]
                self.assertEqual(wise, [1 if made == [1] and behind[0] + 1 == before[0] else 0])

    def test_earth_comes_from_somewhere(self):
        pick = random.Random(13)
        for size, costs, levels, wanted in some_fields(13, 20, ALL_SIZES, 9):
            earth = sum(levels)
            calls = [self.some_call(pick, len(levels)) for _ in range(20)]
            looks = [("look", s) for s in range(len(levels))]
            told = run(*laid(size, costs, levels, wanted), *calls, *looks)[-20 - len(looks):]
            for call, answer in zip(calls, told):
                if answer[0] >= 0:
                    earth += {"move": 0, "bring": 1, "take": -1}[call[0]] * call[-1]
            self.assertEqual(sum(levels_in(told[20:])), earth)


if __name__ == "__main__":
    unittest.main()
