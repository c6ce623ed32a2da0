"""Costs: whole numbers, or None where something can not be."""


def plus(one, other):
    if one is None or other is None:
        return None
    return one + other


def total(costs):
    result = 0
    for cost in costs:
        result = plus(result, cost)
    return result


# None where none of them can be: what can not be is never the least.
def least(costs):
    return min([cost for cost in costs if cost is not None], default=None)
