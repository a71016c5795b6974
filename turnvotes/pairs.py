"""Pairs one by one, the clearest first, and the order by those pairs that stand."""


def pairs_one_by_one(tally):
    """Gives back all pairs of a winner who beats a loser, in the order in which they are taken."""
    ranks = []
    for winner in range(tally.size):
        for loser in range(tally.size):
            if tally.beats(winner, loser):
                ranks.append((-tally.wins[winner][loser], winner, loser))
    return [(winner, loser) for often, winner, loser in sorted(ranks)]


def standing_pairs(tally):
    """Gives back the pairs that stand."""
    standing = []
    # By each candidate: to whom one comes from it by pairs that stand, itself among them.
    reached = [[candidate] for candidate in range(tally.size)]
    for winner, loser in pairs_one_by_one(tally):
        behind = reached[loser]
        if winner not in behind:
            standing.append((winner, loser))
            reached = [led_on(those, winner, behind) for those in reached]
    return standing


def led_on(those, winner, behind):
    """Gives back who's reached where those were, and the winner leads to those behind from now on."""
    if winner not in those:
        return those
    return those + [candidate for candidate in behind if candidate not in those]


def order_by_pairs(tally):
    """Gives back the order by pairs."""
    standing = standing_pairs(tally)
    order = []
    left = list(range(tally.size))
    while left:
        losers = [loser for winner, loser in standing if winner in left]
        least = min([candidate for candidate in left if candidate not in losers])
        order.append(least)
        left.remove(least)
    return order
