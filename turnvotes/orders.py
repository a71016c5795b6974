"""Votes in turn by an order, and the order that quarrels least with all ballots."""

from turnvotes.groups import group_of, members_of


def last_to_stand(tally, order):
    """Gives back who stands at the end of votes in turn, by this order."""
    standing = order[0]
    for candidate in order[1:]:
        if tally.beats(candidate, standing):
            standing = candidate
    return standing


def without(group, candidate):
    """Gives back the group without one of its members."""
    return group ^ group_of([candidate])


def least_quarrel(tally, group, front, calmest):
    """Gives back the least quarrel of a group's orders with this member at the front.

    calmest has the least quarrel of each group of fewer.
    """
    behind = without(group, front)
    with_front = sum([tally.wins[other][front] for other in members_of(behind)])
    return with_front + calmest[behind][0]


def calmest_fronts(tally):
    """Gives back by each group the least quarrel of its orders, and who's at the front then.

    Where several may be at the front, it's the least of them. Nobody is in group 0.
    """
    calmest = [(0, None)]
    for group in range(1, 1 << tally.size):
        fronts = [(least_quarrel(tally, group, front, calmest), front) for front in members_of(group)]
        calmest.append(min(fronts))
    return calmest


def calmest_order(tally):
    """Gives back the first of the orders of least quarrel."""
    calmest = calmest_fronts(tally)
    order = []
    left = group_of(list(range(tally.size)))
    while left != 0:
        front = calmest[left][1]
        order.append(front)
        left = without(left, front)
    return order
