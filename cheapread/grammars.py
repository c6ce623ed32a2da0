"""Grammars: the trees of a row, their costs, the first one in order, and how many there are."""

from cheapread.errors import BadGrammar

MOST_SYMBOLS = 20
MOST_RULES = 400


class Grammar:
    # The answers draw on leaves and pairs alone: whoever reads the rules may change that list.
    def __init__(self, many, rules):
        check_counts(many, len(rules))
        check_symbols(many, rules)
        self.many = many
        self.rules = list(rules)
        self.leaves = numbered(rules, "leaf")
        self.pairs = numbered(rules, "pair")


def check_counts(many, size):
    if many < 1 or many > MOST_SYMBOLS:
        raise BadGrammar(f"a grammar has 1 to {MOST_SYMBOLS} symbols, not {many}")
    if size > MOST_RULES:
        raise BadGrammar(f"a grammar has at most {MOST_RULES} rules, not {size}")


def check_symbols(many, rules):
    for number, rule in enumerate(rules):
        for symbol in symbols_of(rule):
            if symbol < 0 or symbol >= many:
                raise BadGrammar(f"the rule {number} names the symbol {symbol}, which is not there")


def symbols_of(rule):
    if rule[0] == "leaf":
        return rule[1:2]
    return rule[1:4]


# The rules of this kind by their numbers, the lesser ones ahead, without the kind's name.
def numbered(rules, kind):
    found = {}
    for number, rule in enumerate(rules):
        if rule[0] == kind:
            found[number] = rule[1:]
    return found


# Without recursion, since a tree may be deep.
def tree_cost(grammar, tree):
    if top_symbol(grammar, tree) is None:
        return None
    cost = 0
    waiting = [tree]
    while len(waiting) > 0:
        part = waiting.pop()
        if len(part) == 1:
            cost = cost + grammar.leaves[part[0]][2]
        elif not parts_fit(grammar, part):
            return None
        else:
            cost = cost + grammar.pairs[part[0]][3]
            waiting.extend(part[1:])
    return cost


def parts_fit(grammar, tree):
    symbol, left, right, cost = grammar.pairs[tree[0]]
    return top_symbol(grammar, tree[1]) == left and top_symbol(grammar, tree[2]) == right


# None if there is no rule with the top's number, or it is not of the kind that the tuple's length asks for.
def top_symbol(grammar, tree):
    rules = grammar.leaves if len(tree) == 1 else grammar.pairs
    if tree[0] not in rules:
        return None
    return rules[tree[0]][0]


def parse(grammar, row, goal):
    found = whole_row(grammar, row, leaf_trees, pair_trees)
    if goal not in found:
        return None
    cost, order, tree = found[goal]
    return (cost, tree)


def count_trees(grammar, row, goal):
    return whole_row(grammar, row, leaf_counts, pair_counts).get(goal, 0)


# What is known of each part of the row is a dict by symbols, without those that can't read it:
# of one sign by read_one, of more by read_more, from what is known of their shorter parts.
def whole_row(grammar, row, read_one, read_more):
    known = {}
    for start, sign in enumerate(row):
        known[(start, start + 1)] = read_one(grammar, sign)
    for length in range(2, len(row) + 1):
        for start in range(len(row) - length + 1):
            known[(start, start + length)] = read_more(grammar, all_splits(known, start, start + length))
    return known.get((0, len(row)), {})


def all_splits(known, start, end):
    return [(known[(start, middle)], known[(middle, end)]) for middle in range(start + 1, end)]


# For each symbol its first tree, as a triple of its cost, its order and itself.
def leaf_trees(grammar, sign):
    found = {}
    for number, rule in grammar.leaves.items():
        symbol, read, cost = rule
        if read == sign and (symbol not in found or cost < found[symbol][0]):
            found[symbol] = (cost, [number], (number,))
    return found


def pair_trees(grammar, splits):
    found = {}
    for symbol, top in first_tops(grammar, splits).items():
        cost, number = top
        found[symbol] = first_tree(grammar, splits, number, cost)
    return found


# For each symbol the least cost of a tree, and the first rule that has it at the top. An order
# begins with the top's number, so the first tree is one of this rule.
def first_tops(grammar, splits):
    tops = {}
    for number, rule in grammar.pairs.items():
        symbol, left, right, cost = rule
        below = least_below(splits, left, right)
        if below is not None and (symbol not in tops or below + cost < tops[symbol][0]):
            tops[symbol] = (below + cost, number)
    return tops


def least_below(splits, left, right):
    costs = [one[left][0] + other[right][0] for one, other in splits if left in one and right in other]
    return min(costs, default=None)


# Of one rule and one split the first left tree with the first right one is ahead of all others:
# no tree's order begins with the whole order of another one. So only the splits are compared.
def first_tree(grammar, splits, number, cost):
    symbol, left, right, own = grammar.pairs[number]
    ways = []
    for one, other in splits:
        if left in one and right in other and one[left][0] + other[right][0] + own == cost:
            order = [number] + one[left][1] + other[right][1]
            ways.append((cost, order, (number, one[left][2], other[right][2])))
    return min(ways)


# For each symbol how many trees it has.
def leaf_counts(grammar, sign):
    counts = {}
    for symbol, read, cost in grammar.leaves.values():
        if read == sign:
            counts[symbol] = counts.get(symbol, 0) + 1
    return counts


def pair_counts(grammar, splits):
    counts = {}
    for symbol, left, right, cost in grammar.pairs.values():
        ways = [one[left] * other[right] for one, other in splits if left in one and right in other]
        if len(ways) > 0:
            counts[symbol] = counts.get(symbol, 0) + sum(ways)
    return counts
