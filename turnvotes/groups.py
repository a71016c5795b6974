"""Groups of candidates, each told as the sum of 2 to each of its members."""


def group_of(members):
    """Gives back the group that has these members, each of whom is named once."""
    return sum([1 << member for member in members])


def members_of(group):
    """Gives back the members of a group, the least first."""
    return [member for member in range(group.bit_length()) if group >> member & 1]


def unbeaten_by(tally, candidate):
    """Gives back the group of those whom a candidate doesn't beat; it is itself among them."""
    return group_of([other for other in range(tally.size) if not tally.beats(candidate, other)])


def beater_of_all(tally):
    """Gives back the candidate who beats all others, None if nobody does."""
    for candidate in range(tally.size):
        if unbeaten_by(tally, candidate) == group_of([candidate]):
            return candidate
    return None


def group_around(tally, candidate):
    """Gives back the smallest group that beats all others and has this candidate in it."""
    group = 0
    grown = group_of([candidate])
    while grown != group:
        group = grown
        # Whom one member doesn't beat can't be left outside.
        for member in members_of(group):
            grown |= unbeaten_by(tally, member)
    return group


def smallest_group(tally):
    """Gives back the smallest group that beats all others."""
    # Of two groups that beat all others one lies in the other: the smaller has the lesser sum.
    return min([group_around(tally, candidate) for candidate in range(tally.size)])


def covers(tally, one, other):
    """Tells whether one beats the other, and everybody whom the other beats."""
    if not tally.beats(one, other):
        return False
    beaten = [third for third in range(tally.size) if tally.beats(other, third)]
    return all([tally.beats(one, third) for third in beaten])


def is_covered(tally, candidate):
    """Tells whether somebody covers this candidate."""
    return any([covers(tally, one, candidate) for one in range(tally.size)])


def uncovered_group(tally):
    """Gives back the group of those whom nobody covers."""
    return group_of([candidate for candidate in range(tally.size) if not is_covered(tally, candidate)])
