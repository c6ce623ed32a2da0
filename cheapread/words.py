"""Words: the cuts of a text into words side by side, their costs, the first one in order, and how many there are."""

from cheapread.costs import least, plus
from cheapread.errors import BadWords

MOST_WORDS = 30
MOST_SIGNS = 12

# What stands ahead of a cut's first word: no word has this number, so no pair adds anything there.
NO_WORD = -1


class Words:
    # Copies, since whoever made the words may change the lists behind the call.
    def __init__(self, words, pairs):
        check_words(words)
        check_pairs(pairs, len(words))
        self.texts = [text for text, cost in words]
        self.costs = [cost for text, cost in words]
        self.added = {}
        for first, second, cost in pairs:
            self.added[(first, second)] = cost


def check_words(words):
    if len(words) > MOST_WORDS:
        raise BadWords(f"there are more than {MOST_WORDS} words")
    for text, cost in words:
        if len(text) < 1 or len(text) > MOST_SIGNS:
            raise BadWords(f"a word has 1 to {MOST_SIGNS} signs, not as {text!r}")
        if cost is None:
            raise BadWords(f"the word {text!r} has no cost")


def check_pairs(pairs, many):
    seen = {}
    for first, second, cost in pairs:
        if not (0 <= first < many and 0 <= second < many):
            raise BadWords(f"one of the words {first} and {second} is not there")
        if cost is None:
            raise BadWords(f"the words {first} and {second} have no cost")
        if (first, second) in seen:
            raise BadWords(f"the words {first} and {second} stand twice")
        seen[(first, second)] = True


def cut_cost(words, text, row):
    if not is_cut(words, text, row):
        return None
    added = [added_cost(words, first, second) for first, second in zip(row, row[1:])]
    return sum([words.costs[number] for number in row]) + sum(added)


# Whether the words are there is asked first, since a number below 0 would be counted from the list's end.
def is_cut(words, text, row):
    if not all([0 <= number < len(words.texts) for number in row]):
        return False
    return "".join([words.texts[number] for number in row]) == text


def added_cost(words, first, second):
    return words.added.get((first, second), 0)


def cut(words, text):
    tails = least_tails(words, text)
    cost = least_rest(words, tails, NO_WORD, 0)
    if cost is None:
        return None
    return (cost, first_cut(words, tails))


# For each place, for each word, the least cost of a cut of what is left of the text there
# that begins with this word, or None.
def least_tails(words, text):
    tails = [[] for sign in text]
    for place in range(len(text) - 1, -1, -1):
        tails[place] = [tail_cost(words, text, tails, place, number) for number in range(len(words.texts))]
    return tails


def tail_cost(words, text, tails, place, number):
    word = words.texts[number]
    if not text.startswith(word, place):
        return None
    return plus(words.costs[number], least_rest(words, tails, number, place + len(word)))


# The least cost of all that follows the word ahead, from the place on, with what is added between.
def least_rest(words, tails, ahead, place):
    if place == len(tails):
        return 0
    return least(rest_costs(words, tails[place], ahead))


def rest_costs(words, costs, ahead):
    return [plus(added_cost(words, ahead, number), cost) for number, cost in enumerate(costs)]


# At each place the lesser number goes ahead, among all that still lead to the least cost.
def first_cut(words, tails):
    row = []
    ahead = NO_WORD
    place = 0
    while place < len(tails):
        costs = rest_costs(words, tails[place], ahead)
        ahead = costs.index(least(costs))
        row.append(ahead)
        place = place + len(words.texts[ahead])
    return row


# Costs don't matter here: none of them is None, so each way to put words together is a cut.
def count_cuts(words, text):
    ways = [0 for sign in text] + [1]
    for place in range(len(text) - 1, -1, -1):
        ways[place] = sum([ways[place + len(word)] for word in words.texts if text.startswith(word, place)])
    return ways[0]
