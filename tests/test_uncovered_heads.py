"""Promises 7 (uncovered) and 8 (heads)."""

import itertools
import unittest

from asking import (BEGIN, CIRCLE, CIRCLE_BACK, HEADS, MOST_TIMES, SMALLEST, UNCOVERED, ask, ask_cast,
                    candidates, count_beats, duels, group, many_casts)

# 0 beats 1 and 2, 1 beats 2 and 3, 2 beats 3, and 3 beats 0.
FOUR_AROUND = duels(4, (0, 1, 1), (1, 2, 1), (2, 3, 1), (3, 0, 1), (0, 2, 1), (1, 3, 1))
# 0 beats 2 and 4, 1 beats 3 and 4, and 4 beats 2 and 3.
TWO_OVER_ONE = duels(5, (0, 2, 1), (0, 4, 1), (1, 3, 1), (1, 4, 1), (4, 2, 1), (4, 3, 1))


def uncovered_by_the_words(n, cast):
    beats = count_beats(n, cast)

    def covers(one, other):
        return beats[one, other] and all(beats[one, i] for i in range(n) if beats[other, i])

    return group(*[i for i in range(n) if not any(covers(one, i) for one in range(n))])


def heads_by_the_words(n, cast):
    """The heads among all rows of candidates that there are."""
    beats = count_beats(n, cast)
    heads = set()
    for length in range(1, n + 1):
        for row in itertools.permutations(range(n), length):
            is_chain = all(beats[one, behind] for one, behind in itertools.combinations(row, 2))
            if is_chain and not any(all(beats[i, one] for one in row) for i in range(n)):
                heads.add(row[0])
    return group(*heads)


class CasesOfBoth:
    """What holds for both calls."""

    def check(self, n, cast, *members):
        self.assertEqual(ask_cast(n, cast, self.call), [[group(*members)]])

    def test_without_candidates(self):
        self.assertEqual(ask(BEGIN, self.call, candidates(0), self.call), [[0], [-4], [-1], [-4]])

    def test_a_single_candidate(self):
        self.check(1, [], 0)
        self.check(1, [([0], 3)], 0)

    def test_all_without_ballots(self):
        for n in range(2, 7):
            self.check(n, [], *range(n))

    def test_all_where_ballots_were_cast_no_time(self):
        self.check(3, [([2, 0, 1], 0), ([2, 1, 0], 0)], 0, 1, 2)

    def test_by_one_of_many(self):
        self.check(2, [([0, 1], MOST_TIMES), ([1, 0], MOST_TIMES - 1)], 0)
        self.check(2, [([0, 1], MOST_TIMES - 1), ([1, 0], MOST_TIMES)], 1)

    def test_all_in_a_circle(self):
        self.check(3, CIRCLE, 0, 1, 2)
        self.check(3, CIRCLE_BACK, 0, 1, 2)

    def test_three_candidates_and_three_ballots(self):
        orders = list(itertools.permutations(range(3)))
        for chosen in itertools.product(orders, repeat=3):
            cast = [(order, 1) for order in chosen]
            self.assertEqual(ask_cast(3, cast, self.call), [[self.by_the_words(3, cast)]], cast)

    def test_many_sets_of_ballots(self):
        for n, cast in many_casts(7, 1500):
            self.assertEqual(ask_cast(n, cast, self.call), [[self.by_the_words(n, cast)]], cast)


class UncoveredTest(CasesOfBoth, unittest.TestCase):
    call = UNCOVERED
    by_the_words = staticmethod(uncovered_by_the_words)

    def test_who_beats_all_others_covers_them(self):
        for n in range(2, 7):
            for best in range(n):
                order = [best] + [i for i in range(n) if i != best]
                with self.subTest(order=order):
                    self.check(n, [(order, 2), (order[1:] + [best], 1)], best)

    def test_who_wins_alike_covers_nobody(self):
        self.check(2, [([0, 1], 4), ([1, 0], 4)], 0, 1)
        # 0 and 1 both beat 2, but neither beats the other.
        self.check(3, [([0, 1, 2], 4), ([1, 0, 2], 4)], 0, 1)

    def test_a_circle_covers_who_is_behind_it(self):
        self.check(4, [(order + [3], times) for order, times in CIRCLE], 0, 1, 2)

    def test_to_beat_somebody_is_not_yet_to_cover_them(self):
        # 0 beats 1, who beats 2: 0 and 2 win alike, so 0 doesn't cover 1.
        self.check(3, duels(3, (0, 1, 1), (1, 2, 1)), 0, 1)
        self.check(3, duels(3, (0, 1, 1), (1, 2, 1), (0, 2, 1)), 0)

    def test_one_is_covered_within_the_smallest_group(self):
        self.assertEqual(ask_cast(4, FOUR_AROUND, SMALLEST, UNCOVERED), [[15], [group(0, 1, 3)]])

    def test_who_beats_the_coverer_does_not_matter(self):
        # 2 beats 0 and wins alike with 1: 0 covers 1 all the same.
        self.check(3, duels(3, (0, 1, 1), (2, 0, 1)), 2, 0)

    def test_two_together_cover_nobody(self):
        self.check(5, TWO_OVER_ONE, 0, 1, 4)


class HeadsTest(CasesOfBoth, unittest.TestCase):
    call = HEADS
    by_the_words = staticmethod(heads_by_the_words)

    def test_who_beats_all_others_is_the_only_head(self):
        for n in range(2, 7):
            for best in range(n):
                order = [best] + [i for i in range(n) if i != best]
                with self.subTest(order=order):
                    self.check(n, [(order, 2), (order[1:] + [best], 1)], best)

    def test_whoever_nobody_beats_is_a_head(self):
        self.check(2, [([0, 1], 4), ([1, 0], 4)], 0, 1)
        self.check(3, [([0, 1, 2], 4), ([1, 0, 2], 4)], 0, 1)
        self.check(4, duels(4, (3, 1, 1)), 0, 2, 3)

    def test_who_is_behind_a_circle_is_no_head(self):
        self.check(4, [(order + [3], times) for order, times in CIRCLE], 0, 1, 2)

    def test_head_of_two_whom_nobody_beats_both(self):
        # 0 beats 1, but not 2 whom 1 beats.
        self.check(3, duels(3, (0, 1, 1), (1, 2, 1)), 0, 1)
        self.check(3, duels(3, (0, 1, 1), (1, 2, 1), (0, 2, 1)), 0)

    def test_each_in_a_chain_beats_all_behind(self):
        # 2, 3, 0 is no chain: 2 beats 3, who beats 0, but 2 doesn't beat 0.
        self.check(4, FOUR_AROUND, 0, 1, 3)

    def test_who_is_uncovered_may_be_no_head(self):
        # Behind 4 are 2 or 3, but not both: they win alike.
        self.check(5, TWO_OVER_ONE, 0, 1)
        self.check(5, TWO_OVER_ONE + duels(5, (2, 3, 1)), 0, 1, 4)


if __name__ == "__main__":
    unittest.main()
