"""What the document says, by going through all readings, cuts and trees; and what to ask it of."""

import itertools
import random

from cheapread.chains import Chain
from cheapread.grammars import Grammar
from cheapread.words import Words


def plain_cost(parts, row, states):
    """The cost of a row of states that are there, straight from [1.2]."""
    starts, steps, signs, ends = parts
    if not row or len(row) != len(states):
        return None
    costs = [starts[states[0]], ends[states[-1]]]
    for place, sign in enumerate(row):
        there = 0 <= sign < len(signs[0])
        costs.append(signs[states[place]][sign] if there else None)
        if place > 0:
            costs.append(steps[states[place - 1]][states[place]])
    return None if None in costs else sum(costs)


def all_readings(parts, row):
    """All readings in order, as pairs of a cost and a list of states."""
    found = []
    for states in itertools.product(range(len(parts[0])), repeat=len(row)):
        cost = plain_cost(parts, row, states)
        if cost is not None:
            found.append((cost, list(states)))
    return sorted(found, key=lambda pair: (pair[0], pair[1]))


def plain_at_each(readings, row, size):
    table = []
    for place in range(len(row)):
        line = []
        for state in range(size):
            costs = [cost for cost, states in readings if states[place] == state]
            line.append(min(costs) if costs else None)
        table.append(line)
    return table


def parts_of(size, width, pick):
    """The four lists of a chain, each cost picked on its own."""
    starts = [pick() for _ in range(size)]
    steps = [[pick() for _ in range(size)] for _ in range(size)]
    signs = [[pick() for _ in range(width)] for _ in range(size)]
    ends = [pick() for _ in range(size)]
    return starts, steps, signs, ends


def even(size, width, cost=0):
    """The four lists of a chain with one cost everywhere."""
    return parts_of(size, width, lambda: cost)


COSTS = (
    (0,),
    (0, 1),
    (0, None),
    (-1, 0, 1, None),
    (-3, -2, -1, 0, 1, 2, 3, None, None),
    (-999999999999999, 999999999999999, 0, 1, None),
    tuple(range(-50, 51)),
)


def samples(many, seed):
    """So many small chains with a row each: their parts, the chain and the row."""
    luck = random.Random(seed)
    for number in range(many):
        costs = COSTS[number % len(COSTS)]
        size = luck.randint(1, 4)
        width = luck.randint(1, 3)
        parts = parts_of(size, width, lambda: luck.choice(costs))
        low, high = (-1, width) if luck.random() < 0.15 else (0, width - 1)
        row = [luck.randint(low, high) for _ in range(luck.randint(0, 5))]
        yield parts, Chain(*parts), row


def plain_cut_cost(words, pairs, numbers):
    """The cost of a list of words that are there, straight from [2.2]."""
    added = {(first, second): cost for first, second, cost in pairs}
    cost = sum(words[number][1] for number in numbers)
    return cost + sum(added.get(two, 0) for two in itertools.pairwise(numbers))


def all_cuts(words, pairs, text):
    """All cuts in order, as pairs of a cost and a list of numbers."""
    found = []
    for length in range(len(text) + 1):
        for numbers in itertools.product(range(len(words)), repeat=length):
            if "".join(words[number][0] for number in numbers) == text:
                found.append((plain_cut_cost(words, pairs, numbers), list(numbers)))
    return sorted(found, key=lambda pair: (pair[0], pair[1]))


WHOLE_COSTS = [tuple(cost for cost in costs if cost is not None) for costs in COSTS]
TEXTS = (("a",), ("a", "aa"), ("a", "b", "ab", "ba"), ("a", "b", "aa", "aba", "bb"), ("ab", "~ ", "b~"))


def word_samples(many, seed):
    """So many small lists of words with a text each: the words, the pairs, what is made of them, and the text."""
    luck = random.Random(seed)
    for number in range(many):
        costs = WHOLE_COSTS[number % len(WHOLE_COSTS)]
        texts = luck.choice(TEXTS)
        words = [(luck.choice(texts), luck.choice(costs)) for _ in range(luck.randint(0, 4))]
        every = list(itertools.product(range(len(words)), repeat=2))
        chosen = luck.sample(every, luck.randint(0, len(every)))
        pairs = [(first, second, luck.choice(costs)) for first, second in chosen]
        if luck.random() < 0.8 and words:
            text = "".join(luck.choice(words)[0] for _ in range(luck.randint(0, 4)))[:6]
        else:
            text = "".join(luck.choice("ab ~") for _ in range(luck.randint(0, 4)))
        yield words, pairs, Words(words, pairs), text


def order_of(tree):
    """A tree's order, straight from [3.3]."""
    return [tree[0]] + [number for part in tree[1:] for number in order_of(part)]


def told_tree(rules, tree):
    """What [3.2] says of a tuple: its symbol, the signs that it reads, and its cost; None of what is no tree."""
    if not 0 <= tree[0] < len(rules):
        return None
    kind, symbol, *rest, cost = rules[tree[0]]
    if kind == "leaf":
        return (symbol, rest, cost) if len(tree) == 1 else None
    parts = [told_tree(rules, part) for part in tree[1:]]
    if len(parts) != 2 or None in parts or [part[0] for part in parts] != rest:
        return None
    return symbol, parts[0][1] + parts[1][1], cost + parts[0][2] + parts[1][2]


def all_trees(rules, row, goal):
    """All trees of the row with this symbol in order, as pairs of a cost and a tree."""
    known = {}

    def trees(start, end, symbol):
        if (start, end, symbol) not in known:
            known[start, end, symbol] = list(found(start, end, symbol))
        return known[start, end, symbol]

    def found(start, end, wanted):
        for number, (kind, symbol, *rest, cost) in enumerate(rules):
            if symbol != wanted:
                continue
            if kind == "leaf" and row[start:end] == rest:
                yield (number,)
            if kind == "pair":
                for middle in range(start + 1, end):
                    for left in trees(start, middle, rest[0]):
                        for right in trees(middle, end, rest[1]):
                            yield (number, left, right)

    pairs = [(told_tree(rules, tree)[2], tree) for tree in trees(0, len(row), goal)]
    return sorted(pairs, key=lambda pair: (pair[0], order_of(pair[1])))


def grammar_samples(many, seed):
    """So many small grammars with a row and a goal each: the count of symbols, the rules, the grammar, row and goal."""
    luck = random.Random(seed)
    for number in range(many):
        costs = WHOLE_COSTS[number % len(WHOLE_COSTS)]
        symbols = luck.randint(1, 3)
        signs = luck.choice(((0,), (0, 1), (-7, 999999999999999)))
        rules = []
        for _ in range(luck.randint(0, 7)):
            if luck.random() < 0.5:
                rules.append(("leaf", luck.randrange(symbols), luck.choice(signs), luck.choice(costs)))
            else:
                three = [luck.randrange(symbols) for _ in range(3)]
                rules.append(("pair", *three, luck.choice(costs)))
        row = [luck.choice(signs) for _ in range(luck.randint(0, 4))]
        goal = luck.randrange(-1, symbols + 1) if luck.random() < 0.3 else rules[0][1] if rules else 0
        yield symbols, rules, Grammar(symbols, rules), row, goal
