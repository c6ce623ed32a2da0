"""Turning: a chain made into a grammar whose trees are the chain's readings."""

from cheapread.costs import plus
from cheapread.grammars import Grammar

# The symbol that reads a whole row. Each state has two more: one that reads a single sign in
# this state, and one that reads a row's rest, from this state on to the end.
WHOLE = 0


def as_grammar(chain):
    rules = []
    for state in range(chain.size()):
        rules.extend(leaf_rules(chain, state))
        rules.extend(pair_rules(chain, state))
    return Grammar(1 + 2 * chain.size(), [rule for rule in rules if rule[-1] is not None])


def single(state):
    return 1 + 2 * state


def rest(state):
    return 2 + 2 * state


# A row begins and ends but once: what this costs goes into the rules of the first and the last place.
def leaf_rules(chain, state):
    rules = []
    for sign, cost in enumerate(chain.signs[state]):
        last = plus(cost, chain.ends[state])
        rules.append(("leaf", single(state), sign, cost))
        rules.append(("leaf", rest(state), sign, last))
        rules.append(("leaf", WHOLE, sign, plus(chain.starts[state], last)))
    return rules


def pair_rules(chain, state):
    rules = []
    for behind, cost in enumerate(chain.steps[state]):
        rules.append(("pair", rest(state), single(state), rest(behind), cost))
        rules.append(("pair", WHOLE, single(state), rest(behind), plus(chain.starts[state], cost)))
    return rules
