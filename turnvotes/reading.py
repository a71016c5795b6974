"""How calls are read out of the one list of numbers in which they are handed in."""

BEGIN = 0
CANDIDATES = 1
BALLOT = 2
WINS = 3
FIRST = 4
SMALLEST = 5
UNCOVERED = 6
HEADS = 7
TURNS = 8
CALMEST = 9
RANKED = 10

# By the number of the call: how many plain numbers it has behind it.
PLAIN_NUMBERS = (0, 1, 1, 2, 0, 0, 0, 0, 0, 0, 0)


def read_calls(calls):
    """Gives back each call as its number, its plain numbers and its order (empty if it has none)."""
    read = []
    at = 0
    while at < len(calls):
        number = calls[at]
        behind = at + 1 + PLAIN_NUMBERS[number]
        plain = calls[at + 1:behind]
        order = []
        if has_order(number):
            order = read_row(calls, behind)
            behind += 1 + len(order)
        read.append((number, plain, order))
        at = behind
    return read


def has_order(number):
    """Tells whether calls of this number have an order behind their plain numbers."""
    return number == BALLOT or number == TURNS


def read_row(calls, at):
    """Gives back the row whose length stands at this place, and whose numbers stand behind it."""
    return calls[at + 1:at + 1 + calls[at]]
