"""Promises 5 (first) and 6 (smallest)."""

import itertools
import unittest

from asking import (BEGIN, CIRCLE, FIRST, MOST_TIMES, SMALLEST, ask_behind, ask_cast, ballot, candidates,
                    count_beats, many_casts)

CIRCLE_OF_BALLOTS = [ballot(order, times) for order, times in CIRCLE]


def told_of(n, ballots):
    return ask_behind([BEGIN, candidates(n)] + ballots, FIRST, SMALLEST)


def expected(n, cast):
    """first and smallest as the words tell them, by going through all groups there are."""
    table = count_beats(n, cast)
    groups = []
    for size in range(1, n + 1):
        for group in itertools.combinations(range(n), size):
            outside = [j for j in range(n) if j not in group]
            if all(table[i, j] for i in group for j in outside):
                groups.append(group)
    least = groups[0]
    assert all(set(least) <= set(group) for group in groups)
    first = [i for i in range(n) if all(table[i, j] for j in range(n) if j != i)]
    return [[first[0] if first else -2], [sum(2 ** i for i in least)]]


class FirstTest(unittest.TestCase):
    def first(self, n, *ballots):
        return told_of(n, list(ballots))[0]

    def test_a_single_candidate(self):
        self.assertEqual(self.first(1), [0])
        self.assertEqual(self.first(1, ballot([0], 5)), [0])

    def test_each_may_beat_all_others(self):
        for n in range(2, 7):
            for best in range(n):
                order = [best] + [i for i in reversed(range(n)) if i != best]
                with self.subTest(order=order):
                    self.assertEqual(self.first(n, ballot(order), ballot(order[1:] + [best], 0)), [best])

    def test_who_is_seldom_at_the_front_may_beat_all_others(self):
        self.assertEqual(self.first(3, ballot([0, 1, 2], 4), ballot([2, 1, 0], 4), ballot([1, 0, 2])), [1])

    def test_by_one_of_many(self):
        self.assertEqual(self.first(2, ballot([0, 1], MOST_TIMES), ballot([1, 0], MOST_TIMES - 1)), [0])
        self.assertEqual(self.first(2, ballot([0, 1], MOST_TIMES - 1), ballot([1, 0], MOST_TIMES)), [1])

    def test_nobody_without_ballots(self):
        for n in range(2, 7):
            self.assertEqual(self.first(n), [-2])

    def test_nobody_where_ballots_were_cast_no_time(self):
        self.assertEqual(self.first(2, ballot([1, 0], 0)), [-2])

    def test_nobody_where_two_win_alike(self):
        self.assertEqual(self.first(2, ballot([0, 1], 3), ballot([1, 0], 3)), [-2])
        self.assertEqual(self.first(3, ballot([0, 1, 2], 3), ballot([1, 0, 2], 3)), [-2])

    def test_nobody_in_a_circle(self):
        self.assertEqual(self.first(3, *CIRCLE_OF_BALLOTS), [-2])

    def test_unlike_times_break_a_circle(self):
        self.assertEqual(self.first(3, ballot([0, 1, 2]), ballot([1, 2, 0], 5), ballot([2, 0, 1])), [1])


class SmallestTest(unittest.TestCase):
    def smallest(self, n, *ballots):
        return told_of(n, list(ballots))[1]

    def test_a_single_candidate(self):
        self.assertEqual(self.smallest(1), [1])
        self.assertEqual(self.smallest(1, ballot([0], 2)), [1])

    def test_one(self):
        for n in range(2, 7):
            for best in range(n):
                order = [best] + [i for i in range(n) if i != best]
                with self.subTest(order=order):
                    self.assertEqual(self.smallest(n, ballot(order)), [2 ** best])

    def test_all_without_ballots(self):
        for n in range(1, 7):
            self.assertEqual(self.smallest(n), [2 ** n - 1])

    def test_all_in_a_circle(self):
        self.assertEqual(self.smallest(3, *CIRCLE_OF_BALLOTS), [7])

    def test_all_where_a_longer_way_leads_back(self):
        ballots = [ballot([0, 1, 2, 3]), ballot([1, 2, 3, 0]), ballot([3, 0, 1, 2])]
        self.assertEqual(self.smallest(4, *ballots), [15])

    def test_some_in_a_circle_ahead_of_others(self):
        ballots = [ballot([4, 1, 5, 0, 2, 3]), ballot([1, 5, 4, 3, 2, 0]), ballot([5, 4, 1, 2, 3, 0])]
        self.assertEqual(self.smallest(6, *ballots), [2 + 16 + 32])

    def test_some_who_win_alike(self):
        self.assertEqual(self.smallest(3, ballot([0, 2, 1], 3), ballot([2, 0, 1], 3)), [5])

    def test_to_win_alike_is_not_to_beat(self):
        # 0 beats 1, but both win over 2 as often as 2 over them: nobody can be left out.
        self.assertEqual(self.smallest(3, ballot([0, 1, 2]), ballot([2, 0, 1])), [7])
        # 2 beats 0, who beats 1, who wins over 2 as often as 2 over it.
        ballots = [ballot([0, 1, 2]), ballot([2, 0, 1], 2), ballot([1, 2, 0])]
        self.assertEqual(self.smallest(3, *ballots), [7])
        self.assertEqual(self.smallest(3, *ballots, ballot([2, 1, 0])), [4])


class ByTheWordsTest(unittest.TestCase):
    def check(self, n, cast):
        with self.subTest(n=n, cast=cast):
            self.assertEqual(ask_cast(n, cast, FIRST, SMALLEST), expected(n, cast))

    def test_three_candidates_and_three_ballots(self):
        orders = list(itertools.permutations(range(3)))
        for chosen in itertools.product(orders, repeat=3):
            self.check(3, [(order, 1) for order in chosen])

    def test_many_sets_of_ballots(self):
        for n, cast in many_casts(6, 1500):
            self.check(n, cast)


if __name__ == "__main__":
    unittest.main()
