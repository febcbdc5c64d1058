"""The calls on a field, and what each of them answers.

An answer is a list of whole numbers. A refusal is its number alone: -11 nothing has begun,
-2 there is no such square, -22 an argument is out of its bounds, -28 the wanted level can
not be one more, or there are too many squares for flat.
"""

from earthmoved.haul import least_cost

LONGEST_SIDE = 4
HIGHEST_COST = 100
HIGHEST_LEVEL = 50
MOST_SQUARES_FOR_FLAT = 9

# How many whole numbers each call takes, by the call's number: begin, ground, want, look,
# sums, least, worth, flat, move, bring, take, wise, next, done, steep, state. Those from
# move on are here so that they, too, are answered -11 ahead of a begin.
ARGUMENTS = (4, 2, 2, 1, 0, 0, 1, 0, 3, 1, 1, 2, 0, 0, 1, 0)


class Field:

    def __init__(self):
        self.begun = False
        self.width = 0
        self.height = 0
        self.bring_cost = 0
        self.take_cost = 0
        self.levels = []
        self.wanted = []

    def begin(self, w, h, bring_cost, take_cost):
        if not (is_from_1_to(w, LONGEST_SIDE) and is_from_1_to(h, LONGEST_SIDE)):
            return [-22]
        if not (is_from_1_to(bring_cost, HIGHEST_COST) and is_from_1_to(take_cost, HIGHEST_COST)):
            return [-22]
        self.begun = True
        self.width = w
        self.height = h
        self.bring_cost = bring_cost
        self.take_cost = take_cost
        self.levels = [0] * (w * h)
        self.wanted = [0] * (w * h)
        return [0]

    def ground(self, s, l):
        return self.set_height(self.levels, s, l)

    def want(self, s, l):
        return self.set_height(self.wanted, s, l)

    def set_height(self, heights, s, l):
        if not self.has_square(s):
            return [-2]
        if l > HIGHEST_LEVEL:
            return [-22]
        was = heights[s]
        heights[s] = l
        return [was]

    def look(self, s):
        if not self.has_square(s):
            return [-2]
        return [0, self.levels[s], self.wanted[s]]

    def sums(self):
        excess = self.excess_over(self.wanted)
        too_high = sum([e for e in excess if e > 0])
        too_low = sum([-e for e in excess if e < 0])
        return [0, too_high, too_low]

    def least(self):
        return [self.cost_of(self.wanted)]

    def worth(self, s):
        if not self.has_square(s):
            return [-2]
        if self.wanted[s] >= HIGHEST_LEVEL:
            return [-28]
        raised = list(self.wanted)
        raised[s] += 1
        return [0, self.cost_of(raised) - self.cost_of(self.wanted)]

    def flat(self):
        squares = len(self.levels)
        if squares > MOST_SQUARES_FOR_FLAT:
            return [-28]
        costs = [self.cost_of([level] * squares) for level in range(HIGHEST_LEVEL + 1)]
        cheapest = min(costs)
        # The first of like costs belongs to the least of their levels.
        return [costs.index(cheapest), cheapest]

    def has_square(self, s):
        return s < len(self.levels)

    def excess_over(self, goals):
        return [level - goal for level, goal in zip(self.levels, goals)]

    def cost_of(self, goals):
        excess = self.excess_over(goals)
        return least_cost(self.width, self.height, self.bring_cost, self.take_cost, excess)


def is_from_1_to(number, highest):
    return number >= 1 and number <= highest


def answer_to(field, call, given):
    if call == 0:
        return field.begin(given[0], given[1], given[2], given[3])
    if not field.begun:
        return [-11]
    if call == 1:
        return field.ground(given[0], given[1])
    if call == 2:
        return field.want(given[0], given[1])
    if call == 3:
        return field.look(given[0])
    if call == 4:
        return field.sums()
    if call == 5:
        return field.least()
    if call == 6:
        return field.worth(given[0])
    if call == 7:
        return field.flat()
    raise NotImplementedError("the calls from move on are not written yet")


def answers(calls):
    field = Field()
    told = []
    at = 0
    while at < len(calls):
        behind = at + 1 + ARGUMENTS[calls[at]]
        answer = answer_to(field, calls[at], calls[at + 1:behind])
        told.append(len(answer))
        told.extend(answer)
        at = behind
    return told
