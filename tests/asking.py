"""Builds calls as the interface has them, and takes the answers apart again."""

from turnvotes.desk import answers

LEAST = -2147483648
MOST = 2147483647
MOST_TIMES = 4294967295

BEGIN = [0]
FIRST = [4]
SMALLEST = [5]
UNCOVERED = [6]
HEADS = [7]
CALMEST = [9]
RANKED = [10]


def candidates(n):
    return [1, n]


def ballot(order, times=1):
    return [2, times, len(order)] + list(order)


def wins(i, j):
    return [3, i, j]


def turns(order):
    return [8, len(order)] + list(order)


def line(calls):
    return [number for call in calls for number in call]


def take_apart(told):
    """The answers one by one; fails if they don't end where the list ends."""
    parts = []
    at = 0
    while at < len(told):
        behind = at + 1 + told[at]
        if told[at] < 1 or behind > len(told):
            raise AssertionError(f"no answers are told by {told}")
        parts.append(told[at + 1:behind])
        at = behind
    return parts


def ask(*calls):
    """What each of these calls answers on a new object."""
    parts = take_apart(answers(line(calls)))
    if len(parts) != len(calls):
        raise AssertionError(f"{len(parts)} answers to {len(calls)} calls")
    return parts


def ask_behind(ahead, *calls):
    """What the last calls answer, with others ahead of them."""
    return ask(*ahead, *calls)[len(ahead):]
