"""Promise 9 (turns)."""

import itertools
import unittest

from asking import (BEGIN, CIRCLE, CIRCLE_BACK, MOST_TIMES, NO_ORDERS_OF_THREE, ask, ask_behind, ask_cast,
                    ballot, candidates, count_beats, duels, many_casts, turns, wins)


def turns_by_the_words(n, cast, order):
    """Who stands at the end: whoever stood before the last, or the last if it beats them."""
    beats = count_beats(n, cast)
    if len(order) == 1:
        return order[0]
    before = turns_by_the_words(n, cast, order[:-1])
    return order[-1] if beats[order[-1], before] else before


class TurnsTest(unittest.TestCase):
    def check(self, n, cast, order, candidate):
        with self.subTest(order=order):
            self.assertEqual(ask_cast(n, cast, turns(order)), [[candidate]])

    def test_without_candidates(self):
        for order in ([0], [], [0, 1], [255]):
            self.assertEqual(ask(BEGIN, turns(order), candidates(0), turns(order)),
                             [[0], [-4], [-1], [-4]])

    def test_a_single_candidate(self):
        self.check(1, [], [0], 0)
        self.check(1, [([0], 3)], [0], 0)

    def test_the_first_stands_without_ballots(self):
        for order in itertools.permutations(range(4)):
            self.check(4, [], order, order[0])
            self.check(4, [([3, 1, 0, 2], 0)], order, order[0])

    def test_the_first_stands_where_all_win_alike(self):
        self.check(2, [([0, 1], 4), ([1, 0], 4)], [0, 1], 0)
        self.check(2, [([0, 1], 4), ([1, 0], 4)], [1, 0], 1)

    def test_who_beats_all_others_stands_by_any_order(self):
        for order in itertools.permutations(range(4)):
            self.check(4, [([2, 0, 3, 1], 3), ([1, 3, 0, 2], 2)], order, 2)

    def test_by_one_of_many(self):
        self.check(2, [([0, 1], MOST_TIMES), ([1, 0], MOST_TIMES - 1)], [1, 0], 0)
        self.check(2, [([0, 1], MOST_TIMES - 1), ([1, 0], MOST_TIMES)], [0, 1], 1)

    def test_in_a_circle_it_hangs_on_the_order(self):
        for order, candidate in (([0, 1, 2], 2), ([1, 2, 0], 0), ([2, 0, 1], 1),
                                 ([0, 2, 1], 1), ([2, 1, 0], 0), ([1, 0, 2], 2)):
            self.check(3, CIRCLE, order, candidate)

    def test_in_a_circle_the_other_way_round(self):
        for order, candidate in (([0, 2, 1], 1), ([2, 1, 0], 0), ([1, 0, 2], 2),
                                 ([0, 1, 2], 2), ([1, 2, 0], 0), ([2, 0, 1], 1)):
            self.check(3, CIRCLE_BACK, order, candidate)

    def test_each_comes_up_against_who_stands_only(self):
        # 3 beats 1 alone, 1 beats 0, and 2 beats 1: by 0, 1, 2, 3 it's 2 who stands against 3.
        cast = duels(4, (3, 1, 1), (1, 0, 1), (2, 1, 1))
        self.check(4, cast, [0, 1, 2, 3], 2)
        self.check(4, cast, [0, 1, 3, 2], 3)
        self.check(4, cast, [0, 3, 2, 1], 1)
        self.check(4, cast, [3, 1, 0, 2], 3)

    def test_no_order_of_all_candidates(self):
        for order in NO_ORDERS_OF_THREE:
            with self.subTest(order=order):
                told = ask_cast(3, CIRCLE, turns(order), turns([0, 1, 2]), wins(0, 1), ballot([2, 1, 0]))
                self.assertEqual(told, [[-1], [2], [0, 2], [3]])

    def test_no_order_of_a_single_candidate(self):
        for order in ([], [1], [255], [0, 0], [0, 1]):
            self.assertEqual(ask_cast(1, [], turns(order)), [[-1]])

    def test_an_order_asked_by_is_no_ballot(self):
        ahead = [BEGIN, candidates(2)] + [ballot([1, 0])] * 255
        told = ask_behind(ahead, turns([0, 1]), turns([0, 1]), wins(0, 1), wins(1, 0), ballot([0, 1]),
                          turns([0, 1]), turns([0]), ballot([0, 1]), wins(0, 1))
        self.assertEqual(told, [[1], [1], [0, 0], [0, 255], [255], [1], [-1], [-2], [0, 1]])

    def test_by_the_candidates_there_are_now(self):
        told = ask_behind([BEGIN, candidates(3), candidates(2)], turns([0, 1, 2]), turns([1, 0]),
                          candidates(3), turns([1, 0]), turns([2, 1, 0]), BEGIN, turns([2, 1, 0]))
        self.assertEqual(told, [[-1], [1], [0], [-1], [2], [0], [-4]])

    def test_many_sets_of_ballots(self):
        for n, cast in many_casts(9, 400):
            orders = list(itertools.permutations(range(n)))[::7]
            self.assertEqual(ask_cast(n, cast, *[turns(order) for order in orders]),
                             [[turns_by_the_words(n, cast, order)] for order in orders], cast)


if __name__ == "__main__":
    unittest.main()
