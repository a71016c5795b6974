"""A set of ballots, kept as how often each candidate wins over each other one."""


class Tally:
    """How many candidates and ballots there are, and the wins of each over each.

    Without candidates, size is 0.
    """

    def __init__(self):
        self.size = 0
        self.ballots = 0
        self.wins = []

    def start(self, size):
        """Has this many candidates from now on, and no ballots."""
        self.size = size
        self.ballots = 0
        self.wins = [[0] * size for winner in range(size)]

    def is_order(self, order):
        """Tells whether each of the candidates is in the order just once, and nobody else."""
        return sorted(order) == list(range(self.size))

    def cast(self, order, times):
        """Takes in one more ballot: an order, and how often it was cast."""
        self.ballots += 1
        for place, winner in enumerate(order):
            for loser in order[place + 1:]:
                self.wins[winner][loser] += times

    def is_candidate(self, number):
        """Tells whether this number is a candidate's."""
        return 0 <= number < self.size

    def beats(self, one, other):
        """Tells whether one wins more often over the other than the other over it."""
        return self.wins[one][other] > self.wins[other][one]
