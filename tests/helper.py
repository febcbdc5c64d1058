"""What the tests share: calls by name, and two other ways to find what it costs at least."""

import heapq
import itertools
import random

from earthmoved.field import answers

NAMES = ("begin", "ground", "want", "look", "sums", "least", "worth", "flat",
         "move", "bring", "take", "wise", "next", "done", "steep", "state")
LARGEST = 4294967295
# What a plain search gets through in short time: few squares, and a gate that costs little.
SMALL = ((1, 1), (2, 1), (1, 2), (3, 1), (1, 3), (2, 2))
LITTLE = (1, 2, 3)


def run(*calls):
    """Answers to calls such as ("begin", 1, 1, 2, 3), a list for each."""
    numbers = []
    for call in calls:
        numbers += [NAMES.index(call[0])] + list(call[1:])
    # Nothing longer is ever handed in.
    assert 1 <= len(calls) <= 80 and len(numbers) <= 2000
    told = answers(numbers)
    split = []
    at = 0
    while at < len(told):
        split.append(told[at + 1:at + 1 + told[at]])
        at += 1 + told[at]
    assert at == len(told) and len(split) == len(calls), told
    return split


def laid(size, costs, levels, wanted):
    """The calls that lay out a field; size is (w, h), costs are (bring, take)."""
    calls = [("begin",) + tuple(size) + tuple(costs)]
    calls += [("ground", s, level) for s, level in enumerate(levels)]
    calls += [("want", s, level) for s, level in enumerate(wanted)]
    return calls


def some_fields(seed, many, sizes, highest, gates=(1, 2, 3, 7, 100)):
    """Fields that are the same at each run: size, costs, levels, wanted."""
    pick = random.Random(seed)
    for _ in range(many):
        size = pick.choice(sizes)
        squares = range(size[0] * size[1])
        costs = (pick.choice(gates), pick.choice(gates))
        yield size, costs, [pick.randint(0, highest) for _ in squares], [pick.randint(0, highest) for _ in squares]


def ask(size, costs, levels, wanted, *call):
    """What one call answers on a field laid out so."""
    return run(*laid(size, costs, levels, wanted), call)[-1]


def moved_one(size, levels, s, d):
    """The levels behind one load moved that way, or None where that can't be."""
    w, h = size
    x, y = s % w + (0, 1, 0, -1)[d], s // w + (-1, 0, 1, 0)[d]
    if levels[s] == 0 or not (0 <= x < w and 0 <= y < h):
        return None
    moved = list(levels)
    moved[s] -= 1
    moved[w * y + x] += 1
    return tuple(moved)


def after(size, costs, levels):
    """Each state that one load moved, brought or taken away leads to, with what that costs."""
    yield costs[0], (levels[0] + 1,) + levels[1:]
    if levels[0] > 0:
        yield costs[1], (levels[0] - 1,) + levels[1:]
    for s, d in itertools.product(range(len(levels)), range(4)):
        moved = moved_one(size, levels, s, d)
        if moved is not None:
            yield 1, moved


def by_cost(size, costs, levels):
    """All states that can be come to, cheapest first: (what it costs at least, the levels)."""
    cheapest = {tuple(levels): 0}
    waiting = [(0, tuple(levels))]
    while waiting:
        cost, state = heapq.heappop(waiting)
        if cost > cheapest[state]:
            continue
        yield cost, state
        for step, reached in after(size, costs, state):
            if cost + step < cheapest.get(reached, cost + step + 1):
                cheapest[reached] = cost + step
                heapq.heappush(waiting, (cost + step, reached))


def searched(size, costs, levels, goals):
    """What a plain search finds it costs at least to come to each of the goals."""
    missing = set(goals)
    found = {}
    for cost, state in by_cost(size, costs, levels):
        if state in missing:
            found[state] = cost
            missing.remove(state)
        if not missing:
            return found


def searched_left(size, costs, wanted, states):
    """What a plain search finds it costs at least from each of the states till all is as wanted.

    Each step has one that goes back: a move the move back, bringing the taking away. So one
    search, back from what is wanted and with the two costs changed about, finds it for all.
    """
    return searched(size, (costs[1], costs[0]), wanted, states)


def searched_flat(size, costs, levels):
    """The cheapest level for all squares, and its cost, by a plain search."""
    best = None
    for cost, state in by_cost(size, costs, levels):
        if best is not None and cost > best[0]:
            return [best[1], best[0]]
        if len(set(state)) == 1 and (best is None or state[0] < best[1]):
            best = (cost, state[0])


def due_wise(size, levels, left, s, d):
    """What wise is to answer; left(levels) is what it costs at least from there."""
    moved = moved_one(size, levels, s, d)
    return [1 if moved is not None and left(moved) == left(levels) - 1 else 0]


def due_next(size, costs, levels, wanted, left):
    """What next is to answer; left(levels) is what it costs at least from there."""
    if tuple(levels) == tuple(wanted):
        return [-33]
    for s, d in itertools.product(range(len(levels)), range(4)):
        if due_wise(size, levels, left, s, d) == [1]:
            return [0, s, d]
    brought = (levels[0] + 1,) + tuple(levels[1:])
    return [0, 0, 4 if left(brought) == left(levels) - costs[0] else 5]


def price_rows(w, low, high):
    rows = [(p,) for p in range(low, high + 1)]
    for _ in range(w - 1):
        rows = [row + (row[-1] + d,) for row in rows for d in (-1, 0, 1)]
    return rows


def priced(size, costs, levels, wanted):
    """The least cost by prices: a load on a square has a price, which differs by 1 at most
    from square to square, and at the gate is between -bring and take. Whatever the prices,
    no plan costs less than the excesses are worth by them; the dearest prices tell the least.
    """
    w, h = size
    excess = [a - b for a, b in zip(levels, wanted)]

    def worth(row, y):
        return sum(p * e for p, e in zip(row, excess[w * y:w * y + w]))

    # Only the ends of the gate's range matter: in a shift of all prices the worth is linear.
    best = None
    for gate in (-costs[0], costs[1]):
        total = {row: worth(row, 0) for row in price_rows(w, gate, gate)}
        for y in range(1, h):
            further = {}
            for row, value in total.items():
                for steps in itertools.product((-1, 0, 1), repeat=w):
                    below = tuple(p + d for p, d in zip(row, steps))
                    if all(abs(a - b) <= 1 for a, b in zip(below, below[1:])):
                        further[below] = max(further.get(below, value), value)
            total = {row: value + worth(row, y) for row, value in further.items()}
        best = max([*total.values()] + ([] if best is None else [best]))
    return best
