"""The calls on a field, and what each of them answers.

An answer is a list of whole numbers. A refusal is its number alone: -11 nothing has begun,
-2 there is no such square, -22 an argument is out of its bounds, -6 there are not so many
loads, -28 the wanted level can not be one more, or there are too many squares for flat,
-33 nothing is left to do.
"""

from earthmoved.grid import WAYS, square_beside
from earthmoved.haul import least_cost

LONGEST_SIDE = 4
HIGHEST_COST = 100
HIGHEST_LEVEL = 50
MOST_SQUARES_FOR_FLAT = 9
MOST_BROUGHT_AT_ONCE = 1000000

# Where next tells no way to move a load, it tells one of these.
BRING_ONE = 4
TAKE_ONE = 5

# How many whole numbers each call takes, by the call's number: begin, ground, want, look,
# sums, least, worth, flat, move, bring, take, wise, next, done, steep, state.
ARGUMENTS = (4, 2, 2, 1, 0, 0, 1, 0, 3, 1, 1, 2, 0, 0, 1, 0)


class Field:

    def __init__(self):
        self.begun = False
        self.width = 0
        self.height = 0
        self.bring_cost = 0
        self.take_cost = 0
        self.levels = []
        self.wanted = []
        self.spent = 0

    def begin(self, w, h, bring_cost, take_cost):
        if not (is_from_1_to(w, LONGEST_SIDE) and is_from_1_to(h, LONGEST_SIDE)):
            return [-22]
        if not (is_from_1_to(bring_cost, HIGHEST_COST) and is_from_1_to(take_cost, HIGHEST_COST)):
            return [-22]
        self.begun = True
        self.width = w
        self.height = h
        self.bring_cost = bring_cost
        self.take_cost = take_cost
        self.levels = [0] * (w * h)
        self.wanted = [0] * (w * h)
        self.spent = 0
        return [0]

    def ground(self, s, l):
        return self.set_height(self.levels, s, l)

    def want(self, s, l):
        return self.set_height(self.wanted, s, l)

    def set_height(self, heights, s, l):
        if not self.has_square(s):
            return [-2]
        if l > HIGHEST_LEVEL:
            return [-22]
        was = heights[s]
        heights[s] = l
        return [was]

    def look(self, s):
        if not self.has_square(s):
            return [-2]
        return [0, self.levels[s], self.wanted[s]]

    def sums(self):
        excess = excess_of(self.levels, self.wanted)
        too_high = sum([e for e in excess if e > 0])
        too_low = sum([-e for e in excess if e < 0])
        return [0, too_high, too_low]

    def least(self):
        return [self.cost_left()]

    def worth(self, s):
        if not self.has_square(s):
            return [-2]
        if self.wanted[s] >= HIGHEST_LEVEL:
            return [-28]
        raised = list(self.wanted)
        raised[s] += 1
        return [0, self.cost_between(self.levels, raised) - self.cost_left()]

    def flat(self):
        squares = len(self.levels)
        if squares > MOST_SQUARES_FOR_FLAT:
            return [-28]
        costs = [self.cost_between(self.levels, [level] * squares) for level in range(HIGHEST_LEVEL + 1)]
        cheapest = min(costs)
        # The first of like costs belongs to the least of their levels.
        return [costs.index(cheapest), cheapest]

    def move(self, s, d, n):
        if not self.has_square(s):
            return [-2]
        if d >= WAYS:
            return [-22]
        there = self.beside(s, d)
        if there is None:
            return [-2]
        if self.levels[s] < n:
            return [-6]
        self.levels[s] -= n
        self.levels[there] += n
        return self.spend(n)

    def bring(self, n):
        if n > MOST_BROUGHT_AT_ONCE:
            return [-22]
        self.levels[0] += n
        return self.spend(n * self.bring_cost)

    def take(self, n):
        if self.levels[0] < n:
            return [-6]
        self.levels[0] -= n
        return self.spend(n * self.take_cost)

    def wise(self, s, d):
        if not self.has_square(s):
            return [-2]
        if d >= WAYS:
            return [-22]
        return [1 if self.is_move_wise(s, d, self.cost_left()) else 0]

    def next_load(self):
        if self.is_done():
            return [-33]
        left = self.cost_left()
        for s in range(len(self.levels)):
            for d in range(WAYS):
                if self.is_move_wise(s, d, left):
                    return [0, s, d]
        # Something is always wise: if bringing one is not either, taking one away is.
        return [0, 0, BRING_ONE if self.is_bringing_wise(left) else TAKE_ONE]

    def done(self):
        return [1 if self.is_done() else 0]

    def steep(self, k):
        pairs = []
        for s in range(len(self.wanted)):
            # Right and below alone, so that no pair is told twice.
            for d in (1, 2):
                there = self.beside(s, d)
                if there is not None and abs(self.wanted[s] - self.wanted[there]) > k:
                    pairs.extend([s, there])
        return [len(pairs) // 2] + pairs

    def state(self):
        return [0, self.width, self.height, self.bring_cost, self.take_cost, self.spent]

    def has_square(self, s):
        return s < len(self.levels)

    def beside(self, s, d):
        return square_beside(self.width, self.height, s, d)

    def spend(self, cost):
        self.spent += cost
        return [self.spent]

    def is_done(self):
        return self.levels == self.wanted

    # left is what it costs at least as the levels are, so that next finds it only once.
    def is_move_wise(self, s, d, left):
        there = self.beside(s, d)
        if there is None or self.levels[s] == 0:
            return False
        behind = list(self.levels)
        behind[s] -= 1
        behind[there] += 1
        return self.cost_between(behind, self.wanted) == left - 1

    def is_bringing_wise(self, left):
        behind = list(self.levels)
        behind[0] += 1
        return self.cost_between(behind, self.wanted) == left - self.bring_cost

    def cost_left(self):
        return self.cost_between(self.levels, self.wanted)

    def cost_between(self, levels, goals):
        excess = excess_of(levels, goals)
        return least_cost(self.width, self.height, self.bring_cost, self.take_cost, excess)


def excess_of(levels, goals):
    return [level - goal for level, goal in zip(levels, goals)]


def is_from_1_to(number, highest):
    return number >= 1 and number <= highest


def answer_to(field, call, given):
    if call == 0:
        return field.begin(given[0], given[1], given[2], given[3])
    if not field.begun:
        return [-11]
    if call == 1:
        return field.ground(given[0], given[1])
    if call == 2:
        return field.want(given[0], given[1])
    if call == 3:
        return field.look(given[0])
    if call == 4:
        return field.sums()
    if call == 5:
        return field.least()
    if call == 6:
        return field.worth(given[0])
    if call == 7:
        return field.flat()
    if call == 8:
        return field.move(given[0], given[1], given[2])
    if call == 9:
        return field.bring(given[0])
    if call == 10:
        return field.take(given[0])
    if call == 11:
        return field.wise(given[0], given[1])
    if call == 12:
        return field.next_load()
    if call == 13:
        return field.done()
    if call == 14:
        return field.steep(given[0])
    return field.state()


def answers(calls):
    field = Field()
    told = []
    at = 0
    while at < len(calls):
        behind = at + 1 + ARGUMENTS[calls[at]]
        answer = answer_to(field, calls[at], calls[at + 1:behind])
        told.append(len(answer))
        told.extend(answer)
        at = behind
    return told
