"""Guessers held against one another by what a row costs."""

from stridewell.checks import check_row, check_setting
from stridewell.errors import BadAsk
from stridewell.guessers import check_guesser
from stridewell.turns import counts_of, played

WEIGHTS = 3
HIGHEST_WEIGHT = 9
MOST_GUESSERS = 8
MOST_ASKED_PLACES = 4
MOST_LENGTH = 7
MOST_ROWS = 1024


def check_weights(weights):
    """Refuse what are no weights."""
    if len(weights) != WEIGHTS or not all(0 <= weight <= HIGHEST_WEIGHT for weight in weights):
        raise BadAsk("these are no weights")


def many_rows(places, length):
    """How many rows of so many reads there are of so many places."""
    many = 1
    for _ in range(length):
        many = many * places
    return many


def check_rows(setting, places, length):
    """Refuse places and a length of which not all rows may be asked."""
    if not 1 <= places <= min(MOST_ASKED_PLACES, len(setting[0])):
        raise BadAsk("so many places may not be asked")
    # The length is tested first, so that no more rows are counted than there may be reads.
    if not 0 <= length <= MOST_LENGTH or many_rows(places, length) > MOST_ROWS:
        raise BadAsk("so long rows may not be asked")


def all_rows(places, length):
    """All rows of so many of the first places, as lists of places that ascend."""
    rows = [[]]
    for _ in range(length):
        rows = [[*row, place] for row in rows for place in range(places)]
    return rows


def price(setting, guesser, row, weights):
    """What a row costs, all that was handed in having been checked."""
    _, lates, misses, _, _, wasted, idle = counts_of(played(setting, guesser, row))
    late, miss, waste = weights
    return late * lates + miss * misses + waste * (wasted + idle)


def cost(setting, guesser, row, weights):
    """What a row costs."""
    check_setting(setting)
    check_guesser(guesser)
    check_row(setting, row)
    check_weights(weights)
    return price(setting, guesser, row, weights)


def held(setting, guessers, row, weights):
    """What a row costs with each of the guessers: a rising list of (cost, number)."""
    check_setting(setting)
    if len(guessers) > MOST_GUESSERS:
        raise BadAsk("these are more guessers than may be asked")
    for guesser in guessers:
        check_guesser(guesser)
    check_row(setting, row)
    check_weights(weights)
    costs = [price(setting, guesser, row, weights) for guesser in guessers]
    return sorted([(paid, number) for number, paid in enumerate(costs)])


def worst(setting, guesser, other, weights, places, length):
    """By how much the guesser costs more than the other one at the most, and the first such row."""
    check_setting(setting)
    check_guesser(guesser)
    check_guesser(other)
    check_weights(weights)
    check_rows(setting, places, length)
    told = []
    for row in all_rows(places, length):
        deeds = [("read", place) for place in row]
        more = price(setting, guesser, deeds, weights) - price(setting, other, deeds, weights)
        told.append((more, row))
    # Of several that are alike max takes the first one, and the rows ascend.
    return max(told, key=lambda pair: pair[0])
