"""The least that must be spent until no square has too much or too little earth.

Each square has an excess: above 0 it is how much it has too much, below 0 too little.
A way is a list of squares, each beside the one ahead of it, from a square with too much
to one with too little. moved[a][b] is how many loads are moved from a to b beside it.
"""

from earthmoved.grid import squares_beside


def least_cost(w, h, bring_cost, take_cost, excess):
    over = sum(excess)
    # One load brought and one taken away leave the gate as it was, and cost: the cheapest
    # plan passes just the difference through it, and the rest is moving within the field.
    within = list(excess)
    within[0] -= over
    gate_cost = over * take_cost if over > 0 else -over * bring_cost
    return gate_cost + moving_cost(squares_beside(w, h), within)


# The excesses must be 0 in sum: nothing passes the gate here.
def moving_cost(beside, excess):
    left = list(excess)
    moved = [[0] * len(left) for s in left]
    # Sending along a cheapest way each time keeps the moves so far the cheapest for what
    # has been sent. So no round trip saves anything, and the search for ways ends.
    for source in range(len(left)):
        while left[source] > 0:
            steps = cheapest_steps(beside, moved, source)
            send(moved, left, way_to_nearest(steps, left))
    return sum([sum(row) for row in moved])


# A load sent against moves that are planned already spares one of them.
def step_cost(moved, a, b):
    return -1 if moved[b][a] > 0 else 1


# For each square: what a load sent there from the source costs, and the square ahead of it.
def cheapest_steps(beside, moved, source):
    steps = [None] * len(beside)
    steps[source] = (0, source)
    changed = [source]
    while len(changed) > 0:
        bettered = []
        for a in changed:
            for b in beside[a]:
                cost = steps[a][0] + step_cost(moved, a, b)
                if steps[b] is None or cost < steps[b][0]:
                    steps[b] = (cost, a)
                    bettered.append(b)
        changed = bettered
    return steps


def way_to_nearest(steps, left):
    lacking = [s for s in range(len(left)) if left[s] < 0]
    way = [min(lacking, key=lambda s: steps[s][0])]
    # The source alone has itself ahead of it.
    while steps[way[-1]][1] != way[-1]:
        way.append(steps[way[-1]][1])
    return list(reversed(way))


def send(moved, left, way):
    loads = min(left[way[0]], -left[way[-1]])
    # Beyond the moves that can be spared a step costs more, and the way may not be cheapest.
    for a, b in zip(way, way[1:]):
        if moved[b][a] > 0:
            loads = min(loads, moved[b][a])
    for a, b in zip(way, way[1:]):
        if moved[b][a] > 0:
            moved[b][a] -= loads
        else:
            moved[a][b] += loads
    left[way[0]] -= loads
    left[way[-1]] += loads
