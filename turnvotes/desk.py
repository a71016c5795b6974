"""The desk: calls come in as one list of numbers, and what they answer goes out as one."""

from turnvotes.chains import group_of_heads
from turnvotes.counting import Tally
from turnvotes.groups import beater_of_all, smallest_group, uncovered_group
from turnvotes.orders import calmest_order, last_to_stand
from turnvotes.pairs import order_by_pairs
from turnvotes.reading import BALLOT, BEGIN, CALMEST, CANDIDATES, FIRST, RANKED, SMALLEST, TURNS
from turnvotes.reading import UNCOVERED, WINS, read_calls

MOST_CANDIDATES = 12
MOST_BALLOTS = 256


def answers(calls):
    """Gives back for each call, in order, how many numbers it answers, then these."""
    tally = Tally()
    told = []
    for number, plain, order in read_calls(calls):
        answer = answer_call(tally, number, plain, order)
        told.append(len(answer))
        told.extend(answer)
    return told


def answer_call(tally, number, plain, order):
    """Gives back what a call answers: -4 if it needs candidates and there are none."""
    if number == BEGIN:
        return answer_begin(tally)
    if number == CANDIDATES:
        return answer_candidates(tally, plain[0])
    if tally.size == 0:
        return [-4]
    return answer_with_candidates(tally, number, plain, order)


def answer_with_candidates(tally, number, plain, order):
    """Gives back what a call answers that needs candidates, where there are some."""
    if number == BALLOT:
        return answer_ballot(tally, order, plain[0])
    if number == WINS:
        return answer_wins(tally, plain[0], plain[1])
    if number == FIRST:
        return answer_first(tally)
    if number == TURNS:
        return answer_turns(tally, order)
    if number == CALMEST:
        return answer_order(calmest_order(tally))
    if number == RANKED:
        return answer_order(order_by_pairs(tally))
    return [group_asked_for(tally, number)]


def group_asked_for(tally, number):
    """Gives back the group for which a call of this number asks."""
    if number == SMALLEST:
        return smallest_group(tally)
    if number == UNCOVERED:
        return uncovered_group(tally)
    return group_of_heads(tally)


def answer_begin(tally):
    """Has no candidates; 0."""
    tally.start(0)
    return [0]


def answer_candidates(tally, size):
    """Has this many candidates from now on, and no ballots; -1 if that's not from 1 to 12."""
    if not 1 <= size <= MOST_CANDIDATES:
        return [-1]
    tally.start(size)
    return [0]


def answer_ballot(tally, order, times):
    """Takes in a ballot; -1 if it's no order of all candidates, -2 if there's no room for it."""
    if not tally.is_order(order):
        return [-1]
    if tally.ballots == MOST_BALLOTS:
        return [-2]
    before = tally.ballots
    tally.cast(order, times)
    return [before]


def answer_wins(tally, winner, loser):
    """Tells how often one wins over the other; -1 if one's no candidate."""
    if not tally.is_candidate(winner) or not tally.is_candidate(loser):
        return [-1]
    return [0, tally.wins[winner][loser]]


def answer_first(tally):
    """Tells who beats all others; -2 if nobody does."""
    candidate = beater_of_all(tally)
    if candidate is None:
        return [-2]
    return [candidate]


def answer_turns(tally, order):
    """Tells who stands at the end of votes in turn; -1 if it's no order of all candidates."""
    if not tally.is_order(order):
        return [-1]
    return [last_to_stand(tally, order)]


def answer_order(order):
    """Tells how many candidates an order has, then these, filled up with 0."""
    return [len(order)] + order + [0] * (MOST_CANDIDATES - len(order))
