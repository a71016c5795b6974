"""Builds calls as the interface has them, takes the answers apart again, and counts ballots anew.

A cast is a list of ballots, each as its order and how often it was cast.
"""

import itertools
import random

from turnvotes.desk import answers

LEAST = -2147483648
MOST = 2147483647
MOST_TIMES = 4294967295

BEGIN = [0]
FIRST = [4]
SMALLEST = [5]
UNCOVERED = [6]
HEADS = [7]
CALMEST = [9]
RANKED = [10]

CIRCLE = [([0, 1, 2], 1), ([1, 2, 0], 1), ([2, 0, 1], 1)]
CIRCLE_BACK = [([0, 2, 1], 1), ([2, 1, 0], 1), ([1, 0, 2], 1)]
NO_ORDERS_OF_THREE = ([], [0], [0, 1], [2, 1], [0, 1, 2, 0], [0, 1, 2, 3], [0, 0, 1], [2, 2, 2],
                      [1, 2, 1], [0, 1, 3], [1, 2, 3], [255, 1, 0], [0, 1, 2] * 4, list(range(12)))


def candidates(n):
    return [1, n]


def ballot(order, times=1):
    return [2, times, len(order)] + list(order)


def wins(i, j):
    return [3, i, j]


def turns(order):
    return [8, len(order)] + list(order)


def line(calls):
    return [number for call in calls for number in call]


def take_apart(told):
    """The answers one by one; fails if they don't end where the list ends."""
    parts = []
    at = 0
    while at < len(told):
        behind = at + 1 + told[at]
        if told[at] < 1 or behind > len(told):
            raise AssertionError(f"no answers are told by {told}")
        parts.append(told[at + 1:behind])
        at = behind
    return parts


def ask(*calls):
    """What each of these calls answers on a new object."""
    parts = take_apart(answers(line(calls)))
    if len(parts) != len(calls):
        raise AssertionError(f"{len(parts)} answers to {len(calls)} calls")
    return parts


def ask_behind(ahead, *calls):
    """What the last calls answer, with others ahead of them."""
    return ask(*ahead, *calls)[len(ahead):]


def ask_cast(n, cast, *calls):
    """What these calls answer with n candidates and these ballots."""
    ballots = [ballot(order, times) for order, times in cast]
    return ask_behind([BEGIN, candidates(n)] + ballots, *calls)


def group(*members):
    return sum(2 ** member for member in members)


def order_told(order):
    """What calmest and ranked answer if it's this order."""
    return [len(order)] + list(order) + [0] * (12 - len(order))


def duels(n, *won):
    """A cast in which one wins over another more often than back by twice a number of times.

    Each of won is such a one, the other, and the number of times; all other pairs win alike.
    """
    cast = []
    for one, other, times in won:
        rest = [third for third in range(n) if third not in (one, other)]
        cast.append(([one, other] + rest, times))
        cast.append((rest[::-1] + [one, other], times))
    return cast


def count_wins(n, cast):
    """By each two candidates: how often the first wins over the second."""
    return {(i, j): sum(times for order, times in cast if i != j and order.index(i) < order.index(j))
            for i in range(n) for j in range(n)}


def count_beats(n, cast):
    """By each two candidates: whether the first beats the second."""
    often = count_wins(n, cast)
    return {(i, j): often[i, j] > often[j, i] for i, j in often}


def few_ballots(chance, n):
    return [(chance.sample(range(n), n), chance.choice((0, 1, 1, 2, 3, MOST_TIMES)))
            for place in range(chance.randint(0, 7))]


def many_duels(chance, n):
    """A cast in which any pair may have either winner or none, and many win equally often."""
    pairs = [chance.sample(pair, 2) for pair in itertools.combinations(range(n), 2)]
    return duels(n, *[(one, other, chance.choice((0, 1, 1, 2, 3))) for one, other in pairs])


def many_casts(seed, turns):
    """Numbers of candidates, each with a cast."""
    chance = random.Random(seed)
    for turn in range(turns):
        n = chance.randint(1, 6)
        yield n, chance.choice((few_ballots, many_duels))(chance, n)
