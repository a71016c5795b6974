"""Chains of candidates, each of whom beats all behind, and their heads."""

from turnvotes.groups import group_of


def beats_each(tally, one, chain):
    """Tells whether one beats everybody in a chain."""
    return all([tally.beats(one, other) for other in chain])


def group_of_heads(tally):
    """Gives back the group of those who are some chain's head."""
    heads = 0
    # Every chain comes up here once, as it grows by its front from its last one on.
    chains = [[candidate] for candidate in range(tally.size)]
    while chains:
        chain = chains.pop()
        beaters = [one for one in range(tally.size) if beats_each(tally, one, chain)]
        if not beaters:
            heads |= group_of([chain[0]])
        chains.extend([[one] + chain for one in beaters])
    return heads
