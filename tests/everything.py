"""What the document says of chains, by going through all rows of states; and chains to ask it of."""

import itertools
import random

from cheapread.chains import Chain


def plain_cost(parts, row, states):
    """The cost of a row of states that are there, straight from [1.2]."""
    starts, steps, signs, ends = parts
    if not row or len(row) != len(states):
        return None
    costs = [starts[states[0]], ends[states[-1]]]
    for place, sign in enumerate(row):
        there = 0 <= sign < len(signs[0])
        costs.append(signs[states[place]][sign] if there else None)
        if place > 0:
            costs.append(steps[states[place - 1]][states[place]])
    return None if None in costs else sum(costs)


def all_readings(parts, row):
    """All readings in order, as pairs of a cost and a list of states."""
    found = []
    for states in itertools.product(range(len(parts[0])), repeat=len(row)):
        cost = plain_cost(parts, row, states)
        if cost is not None:
            found.append((cost, list(states)))
    return sorted(found, key=lambda pair: (pair[0], pair[1]))


def plain_at_each(readings, row, size):
    table = []
    for place in range(len(row)):
        line = []
        for state in range(size):
            costs = [cost for cost, states in readings if states[place] == state]
            line.append(min(costs) if costs else None)
        table.append(line)
    return table


def parts_of(size, width, pick):
    """The four lists of a chain, each cost picked on its own."""
    starts = [pick() for _ in range(size)]
    steps = [[pick() for _ in range(size)] for _ in range(size)]
    signs = [[pick() for _ in range(width)] for _ in range(size)]
    ends = [pick() for _ in range(size)]
    return starts, steps, signs, ends


def even(size, width, cost=0):
    """The four lists of a chain with one cost everywhere."""
    return parts_of(size, width, lambda: cost)


COSTS = (
    (0,),
    (0, 1),
    (0, None),
    (-1, 0, 1, None),
    (-3, -2, -1, 0, 1, 2, 3, None, None),
    (-999999999999999, 999999999999999, 0, 1, None),
    tuple(range(-50, 51)),
)


def samples(many, seed):
    """So many small chains with a row each: their parts, the chain and the row."""
    luck = random.Random(seed)
    for number in range(many):
        costs = COSTS[number % len(COSTS)]
        size = luck.randint(1, 4)
        width = luck.randint(1, 3)
        parts = parts_of(size, width, lambda: luck.choice(costs))
        low, high = (-1, width) if luck.random() < 0.15 else (0, width - 1)
        row = [luck.randint(low, high) for _ in range(luck.randint(0, 5))]
        yield parts, Chain(*parts), row
