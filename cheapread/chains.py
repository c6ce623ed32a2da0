"""Chains: the readings of a row as states, their costs, the first ones in order, and how many there are."""

from cheapread.costs import least, plus, total
from cheapread.errors import BadChain

MOST_STATES = 8
MOST_SIGNS = 8


class Chain:
    # Copies, since whoever made the chain may change the lists behind the call.
    def __init__(self, starts, steps, signs, ends):
        check_states(starts, steps, signs, ends)
        check_rows(steps, len(starts), "steps")
        check_signs(signs)
        self.starts = list(starts)
        self.steps = [list(costs) for costs in steps]
        self.signs = [list(costs) for costs in signs]
        self.ends = list(ends)

    def size(self):
        return len(self.starts)


def check_states(starts, steps, signs, ends):
    size = len(starts)
    if size < 1 or size > MOST_STATES:
        raise BadChain(f"a chain has 1 to {MOST_STATES} states, not {size}")
    if len(steps) != size or len(signs) != size or len(ends) != size:
        raise BadChain(f"steps, signs and ends are not for {size} states each")


def check_rows(rows, width, what):
    for costs in rows:
        if len(costs) != width:
            raise BadChain(f"a list within {what} has not {width} costs")


def check_signs(signs):
    width = len(signs[0])
    if width < 1 or width > MOST_SIGNS:
        raise BadChain(f"a chain has 1 to {MOST_SIGNS} signs, not {width}")
    check_rows(signs, width, "signs")


def cost_of(chain, row, states):
    if len(row) == 0 or len(states) != len(row) or not all_there(chain, states):
        return None
    parts = [chain.starts[states[0]], chain.ends[states[-1]]]
    for state, sign in zip(states, row):
        parts.append(sign_cost(chain, state, sign))
    for before, after in zip(states, states[1:]):
        parts.append(chain.steps[before][after])
    return total(parts)


def all_there(chain, states):
    return all([0 <= state < chain.size() for state in states])


# Asked ahead of the index, since a number below 0 would be counted from the list's end.
def sign_cost(chain, state, sign):
    costs = chain.signs[state]
    if sign < 0 or sign >= len(costs):
        return None
    return costs[sign]


# For each state, what it costs to begin there and to read the sign there.
def begin_costs(chain, sign):
    return [plus(cost, sign_cost(chain, state, sign)) for state, cost in enumerate(chain.starts)]


# For each state, what it costs to go from there to each state and to read the sign in that one.
def move_costs(chain, sign):
    reads = [sign_cost(chain, state, sign) for state in range(chain.size())]
    moves = []
    for costs in chain.steps:
        moves.append([plus(cost, read) for cost, read in zip(costs, reads)])
    return moves


# A head is a reading's cost and states so far. Of the heads that end in one state only the
# first ones are kept: whatever follows is the same for all of them and leaves their order.
def few(chain, row, many):
    if len(row) == 0 or many <= 0:
        return []
    heads = [lengthened([(0, [])], cost, [state]) for state, cost in enumerate(begin_costs(chain, row[0]))]
    for sign in row[1:]:
        heads = longer_heads(heads, move_costs(chain, sign), many)
    readings = []
    for known, cost in zip(heads, chain.ends):
        readings.extend(lengthened(known, cost, []))
    return sorted(readings)[:many]


def longer_heads(heads, moves, many):
    longer = []
    for state in range(len(heads)):
        found = []
        for known, costs in zip(heads, moves):
            found.extend(lengthened(known, costs[state], [state]))
        longer.append(sorted(found)[:many])
    return longer


def lengthened(heads, cost, states):
    if cost is None:
        return []
    return [(known + cost, head + states) for known, head in heads]


def cheapest(chain, row):
    found = few(chain, row, 1)
    if len(found) == 0:
        return None
    return found[0]


def count(chain, row):
    if len(row) == 0:
        return 0
    ways = [0 if cost is None else 1 for cost in begin_costs(chain, row[0])]
    for sign in row[1:]:
        moves = move_costs(chain, sign)
        ways = [ways_into(state, ways, moves) for state in range(chain.size())]
    return sum([known for known, cost in zip(ways, chain.ends) if cost is not None])


def ways_into(state, ways, moves):
    return sum([known for known, costs in zip(ways, moves) if costs[state] is not None])


def at_each(chain, row):
    if len(row) == 0:
        return []
    moves = [move_costs(chain, sign) for sign in row[1:]]
    heads = least_heads(begin_costs(chain, row[0]), moves)
    tails = least_tails(chain.ends, moves)
    found = []
    for before, behind in zip(heads, tails):
        found.append([plus(head, tail) for head, tail in zip(before, behind)])
    return found


# For each place, for each state, the least cost up to there, with the sign that is read there.
def least_heads(begins, moves):
    heads = [begins]
    for costs in moves:
        heads.append([least_into(state, heads[-1], costs) for state in range(len(begins))])
    return heads


def least_into(state, heads, costs):
    return least([plus(head, steps[state]) for head, steps in zip(heads, costs)])


# For each place, for each state, the least cost from there on, without the sign that is read there.
def least_tails(ends, moves):
    tails = [ends]
    for costs in reversed(moves):
        tails.append([least_from(steps, tails[-1]) for steps in costs])
    return list(reversed(tails))


def least_from(steps, tails):
    return least([plus(step, tail) for step, tail in zip(steps, tails)])
