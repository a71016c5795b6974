"""Promises 10 (calmest) and 11 (ranked)."""

import itertools
import unittest

from asking import (BEGIN, CALMEST, CIRCLE, CIRCLE_BACK, MOST_TIMES, RANKED, ask, ask_behind, ask_cast,
                    ballot, candidates, count_wins, duels, many_casts, order_told)


def quarrel(order, often):
    return sum(often[behind, before] for before, behind in itertools.combinations(order, 2))


def calmest_by_the_words(n, cast):
    """The first of all orders that quarrel least: permutations come from the first on."""
    often = count_wins(n, cast)
    return min(itertools.permutations(range(n)), key=lambda order: quarrel(order, often))


def leads(standing, one, other):
    """Whether one comes from one to the other by pairs that stand."""
    return one == other or any(leads(standing, loser, other) for winner, loser in standing if winner == one)


def standing_by_the_words(n, cast):
    often = count_wins(n, cast)
    pairs = [(i, j) for i, j in itertools.permutations(range(n), 2) if often[i, j] > often[j, i]]
    standing = []
    for winner, loser in sorted(pairs, key=lambda pair: (-often[pair], pair[0], pair[1])):
        if not leads(standing, loser, winner):
            standing.append((winner, loser))
    return standing


def ranked_by_the_words(n, cast):
    standing = standing_by_the_words(n, cast)
    order = []
    for place in range(n):
        left = [i for i in range(n) if i not in order]
        order.append([i for i in left if not any((winner, i) in standing for winner in left)][0])
    return order


class CasesOfBoth:
    """What holds for both calls."""

    def check(self, n, cast, order):
        self.assertEqual(ask_cast(n, cast, self.call), [order_told(order)])

    def test_without_candidates(self):
        self.assertEqual(ask(BEGIN, self.call, candidates(0), self.call), [[0], [-4], [-1], [-4]])

    def test_twelve_numbers_behind_how_many_candidates(self):
        self.assertEqual(ask_cast(4, [([3, 1, 0, 2], 1)], self.call), [[4, 3, 1, 0, 2, 0, 0, 0, 0, 0, 0, 0, 0]])
        self.assertEqual(ask_cast(6, [([3, 5, 1, 0, 4, 2], 1)], self.call),
                         [[6, 3, 5, 1, 0, 4, 2, 0, 0, 0, 0, 0, 0]])

    def test_a_single_candidate(self):
        self.assertEqual(ask_cast(1, [], self.call), [[1] + [0] * 12])
        self.assertEqual(ask_cast(1, [([0], 3)], self.call), [[1] + [0] * 12])

    def test_by_one_of_many(self):
        self.check(2, [([0, 1], MOST_TIMES), ([1, 0], MOST_TIMES - 1)], [0, 1])
        self.check(2, [([0, 1], MOST_TIMES - 1), ([1, 0], MOST_TIMES)], [1, 0])

    def test_three_candidates_and_three_ballots(self):
        orders = list(itertools.permutations(range(3)))
        for chosen in itertools.product(orders, repeat=3):
            cast = [(order, 1) for order in chosen]
            self.check(3, cast, self.by_the_words(3, cast))

    def test_many_sets_of_ballots(self):
        for n, cast in many_casts(10, 800):
            with self.subTest(n=n, cast=cast):
                self.check(n, cast, self.by_the_words(n, cast))


class CalmestTest(CasesOfBoth, unittest.TestCase):
    call = CALMEST
    by_the_words = staticmethod(calmest_by_the_words)

    def test_the_first_of_all_without_ballots(self):
        for n in range(2, 7):
            self.check(n, [], range(n))

    def test_the_first_of_all_where_ballots_were_cast_no_time(self):
        self.check(3, [([2, 0, 1], 0), ([2, 1, 0], 0)], [0, 1, 2])

    def test_the_first_of_all_where_each_two_win_alike(self):
        self.check(4, [([3, 1, 0, 2], 5), ([2, 0, 1, 3], 5)], [0, 1, 2, 3])

    def test_a_single_ballot_has_no_quarrel(self):
        for order in itertools.permutations(range(4)):
            self.check(4, [(order, 2)], order)
            self.check(4, [(order, 2), (order[::-1], 1)], order)

    def test_the_first_of_equal_ones_in_a_circle(self):
        self.check(3, CIRCLE, [0, 1, 2])
        self.check(3, CIRCLE_BACK, [0, 2, 1])

    def test_a_circle_is_cut_where_it_is_weakest(self):
        self.check(3, duels(3, (0, 1, 1), (1, 2, 2), (2, 0, 2)), [1, 2, 0])
        self.check(3, duels(3, (0, 1, 2), (1, 2, 1), (2, 0, 2)), [2, 0, 1])
        self.check(3, duels(3, (0, 1, 2), (1, 2, 2), (2, 0, 1)), [0, 1, 2])

    def test_the_first_of_two_equal_ones_differs_late(self):
        # 3 beats 1 and 2, 0 beats nobody and is beaten by nobody.
        self.check(4, duels(4, (3, 1, 1), (3, 2, 1)), [0, 3, 1, 2])
        self.check(4, duels(4, (1, 3, 1), (3, 2, 1)), [0, 1, 3, 2])
        self.check(4, duels(4, (2, 0, 1)), [1, 2, 0, 3])

    def test_it_counts_how_often_and_not_how_many_pairs(self):
        # 1, 2, 0, 3 has two pairs against it, by 2 each; 3, 1, 2, 0 has but one, by 5.
        cast = duels(4, (0, 3, 5), (3, 1, 2), (3, 2, 2), (1, 0, 3), (2, 0, 3), (1, 2, 1))
        self.check(4, cast, [1, 2, 0, 3])
        # Now they are by 3 each.
        cast = duels(4, (0, 3, 5), (3, 1, 3), (3, 2, 3), (1, 0, 3), (2, 0, 3), (1, 2, 1))
        self.check(4, cast, [3, 1, 2, 0])

    def test_who_beats_all_others_is_ahead(self):
        circle_ahead = [([3] + order, times) for order, times in CIRCLE_BACK]
        self.check(4, circle_ahead, [3, 0, 2, 1])


class RankedTest(CasesOfBoth, unittest.TestCase):
    call = RANKED
    by_the_words = staticmethod(ranked_by_the_words)

    def test_the_least_one_after_another_without_ballots(self):
        for n in range(2, 7):
            self.check(n, [], range(n))

    def test_the_least_one_after_another_where_ballots_were_cast_no_time(self):
        self.check(3, [([2, 0, 1], 0), ([2, 1, 0], 0)], [0, 1, 2])

    def test_who_win_alike_make_no_pair(self):
        self.check(4, [([3, 1, 0, 2], 5), ([2, 0, 1, 3], 5)], [0, 1, 2, 3])
        self.check(3, [([2, 1, 0], 5), ([1, 2, 0], 5)], [1, 2, 0])

    def test_a_single_ballot(self):
        for order in itertools.permutations(range(4)):
            self.check(4, [(order, 2)], order)
            self.check(4, [(order, 2), (order[::-1], 1)], order)

    def test_a_circle_is_cut_where_it_is_weakest(self):
        self.check(3, duels(3, (0, 1, 1), (1, 2, 2), (2, 0, 3)), [1, 2, 0])
        self.check(3, duels(3, (0, 1, 3), (1, 2, 1), (2, 0, 2)), [2, 0, 1])
        self.check(3, duels(3, (0, 1, 2), (1, 2, 3), (2, 0, 1)), [0, 1, 2])

    def test_of_equal_pairs_the_lesser_winner_goes_first(self):
        self.check(3, CIRCLE, [0, 1, 2])
        # 0 over 2 and 1 over 0 stand ahead of 2 over 1, though the lesser loser is with 1 over 0.
        self.check(3, CIRCLE_BACK, [1, 0, 2])
        self.check(4, duels(4, (3, 0, 1), (0, 2, 1), (2, 3, 1)), [0, 1, 2, 3])

    def test_equal_pairs_of_one_winner(self):
        # 0 over 2, 2 over 3 and 3 over 1 stand; 3 over 0 doesn't.
        self.check(4, duels(4, (3, 0, 1), (3, 1, 1), (0, 2, 1), (2, 3, 1)), [0, 2, 3, 1])

    def test_a_longer_way_keeps_a_pair_from_standing(self):
        self.check(4, duels(4, (0, 1, 9), (1, 2, 8), (2, 3, 7), (3, 0, 6)), [0, 1, 2, 3])
        self.check(4, duels(4, (3, 2, 9), (2, 1, 8), (1, 0, 7), (0, 3, 6)), [3, 2, 1, 0])
        self.check(6, duels(6, (5, 3, 9), (3, 1, 9), (1, 4, 8), (4, 2, 7), (2, 0, 6), (0, 5, 5)),
                   [5, 3, 1, 4, 2, 0])

    def test_a_way_may_be_joined_in_the_middle(self):
        self.check(4, duels(4, (1, 3, 9), (0, 2, 8), (3, 0, 7), (2, 1, 6)), [1, 3, 0, 2])
        self.check(6, duels(6, (5, 4, 9), (3, 2, 9), (1, 0, 9), (4, 3, 8), (2, 1, 7), (0, 5, 6)),
                   [5, 4, 3, 2, 1, 0])

    def test_a_pair_that_does_not_stand_leads_nowhere(self):
        # 2 over 0 doesn't stand, so 0 over 3 isn't kept from standing by the way 3, 1, 2, 0.
        cast = duels(4, (0, 1, 9), (1, 2, 8), (2, 0, 7), (3, 1, 6), (0, 3, 5))
        self.check(4, cast, [0, 3, 1, 2])
        # 1 over 0 doesn't stand, so 0 over 3 isn't kept from standing by the way 3, 1, 0.
        cast = duels(4, (0, 2, 9), (2, 1, 8), (1, 0, 7), (3, 1, 6), (0, 3, 5))
        self.check(4, cast, [0, 2, 3, 1])

    def test_the_least_of_those_who_are_free_comes_next(self):
        self.check(3, duels(3, (2, 0, 1)), [1, 2, 0])
        self.check(3, duels(3, (1, 0, 1)), [1, 0, 2])
        self.check(3, duels(3, (2, 1, 1)), [0, 2, 1])
        self.check(5, duels(5, (4, 0, 1), (3, 1, 1)), [2, 3, 1, 4, 0])

    def test_it_may_be_another_than_the_calmest(self):
        self.assertEqual(ask_cast(3, CIRCLE_BACK, CALMEST, RANKED),
                         [order_told([0, 2, 1]), order_told([1, 0, 2])])

    def test_ballots_cast_meanwhile_count(self):
        told = ask_behind([BEGIN, candidates(3)], RANKED, CALMEST, ballot([2, 1, 0]), RANKED, CALMEST,
                          ballot([1, 0, 2], 2), RANKED, CALMEST, candidates(2), RANKED, CALMEST)
        orders = [order_told(order) for order in ([0, 1, 2], [2, 1, 0], [1, 0, 2], [0, 1])]
        self.assertEqual(told, [orders[0]] * 2 + [[0]] + [orders[1]] * 2 + [[1]] + [orders[2]] * 2
                         + [[0]] + [orders[3]] * 2)


if __name__ == "__main__":
    unittest.main()
