"""Promises 3 (ballot) and 4 (wins)."""

import unittest

from asking import (BEGIN, FIRST, LEAST, MOST, MOST_TIMES, NO_ORDERS_OF_THREE, SMALLEST, ask_behind,
                    ballot, candidates, wins)


def all_wins(n):
    return [wins(i, j) for i in range(n) for j in range(n)]


class BallotTest(unittest.TestCase):
    def test_tells_how_many_there_were_before(self):
        told = ask_behind([BEGIN, candidates(3)], ballot([0, 1, 2], 7), ballot([0, 1, 2], 7),
                          ballot([2, 0, 1], 0), ballot([1, 0, 2], MOST_TIMES), ballot([2, 1, 0]))
        self.assertEqual(told, [[0], [1], [2], [3], [4]])

    def test_no_order_of_all_candidates(self):
        ahead = [BEGIN, candidates(3), ballot([2, 0, 1], 4)]
        kept = [[0, 0], [0, 4], [0, 0], [0, 0], [0, 0], [0, 0], [0, 4], [0, 4], [0, 0]]
        for order in NO_ORDERS_OF_THREE:
            with self.subTest(order=order):
                told = ask_behind(ahead, ballot(order, 9), *all_wins(3), ballot([0, 1, 2]))
                self.assertEqual(told, [[-1]] + kept + [[1]])

    def test_no_order_of_a_single_candidate(self):
        for order in ([], [1], [255], [0, 0], [0, 1]):
            with self.subTest(order=order):
                told = ask_behind([BEGIN, candidates(1)], ballot(order), ballot([0]), ballot([0]))
                self.assertEqual(told, [[-1], [0], [1]])

    def test_there_is_room_for_256(self):
        ahead = [BEGIN, candidates(2)] + [ballot([0, 1], 2)] * 200 + [ballot([1, 0], 3)] * 55
        told = ask_behind(ahead, ballot([1, 0], 3), ballot([1, 0], 3), ballot([0, 1], 0),
                          wins(0, 1), wins(1, 0), FIRST)
        self.assertEqual(told, [[255], [-2], [-2], [0, 400], [0, 168], [0]])

    def test_ballots_cast_no_time_take_room_too(self):
        ahead = [BEGIN, candidates(2)] + [ballot([0, 1], 0)] * 256
        told = ask_behind(ahead, ballot([0, 1]), wins(0, 1), wins(1, 0))
        self.assertEqual(told, [[-2], [0, 0], [0, 0]])

    def test_no_order_is_looked_at_ahead_of_no_room(self):
        ahead = [BEGIN, candidates(3)] + [ballot([0, 1, 2])] * 256
        calls = [ballot(order) for order in NO_ORDERS_OF_THREE]
        told = ask_behind(ahead, *calls, ballot([2, 1, 0]), wins(0, 2), wins(2, 0))
        self.assertEqual(told, [[-1]] * len(calls) + [[-2], [0, 256], [0, 0]])

    def test_refused_ballots_take_no_room(self):
        ahead = [BEGIN, candidates(2)] + [ballot([0, 1])] * 255 + [ballot([0, 0])] * 20
        self.assertEqual(ask_behind(ahead, ballot([1, 0]), ballot([1, 0])), [[255], [-2]])

    def test_there_is_room_again_behind_candidates(self):
        ahead = [BEGIN, candidates(2)] + [ballot([0, 1])] * 256
        told = ask_behind(ahead, candidates(2), ballot([1, 0]), ballot([1, 0]), wins(0, 1), wins(1, 0))
        self.assertEqual(told, [[0], [0], [1], [0, 0], [0, 2]])

    def test_there_is_room_again_behind_begin(self):
        ahead = [BEGIN, candidates(2)] + [ballot([0, 1])] * 256
        self.assertEqual(ask_behind(ahead, BEGIN, candidates(2), ballot([1, 0])), [[0], [0], [0]])


class WinsTest(unittest.TestCase):
    def test_wins_both_ways(self):
        ahead = [BEGIN, candidates(3), ballot([0, 1, 2], 5), ballot([2, 1, 0], 3), ballot([1, 0, 2], 11)]
        told = ask_behind(ahead, *all_wins(3))
        self.assertEqual(told, [[0, 0], [0, 5], [0, 16],
                                [0, 14], [0, 0], [0, 16],
                                [0, 3], [0, 3], [0, 0]])

    def test_over_neighbours_and_over_those_further_behind(self):
        told = ask_behind([BEGIN, candidates(6), ballot([3, 5, 0, 2, 4, 1], 2)], *all_wins(6))
        place = [2, 5, 3, 0, 4, 1]
        self.assertEqual(told, [[0, 2 if place[i] < place[j] else 0]
                                for i in range(6) for j in range(6)])

    def test_over_itself_there_are_none(self):
        ahead = [BEGIN, candidates(4), ballot([3, 1, 0, 2], MOST_TIMES)]
        told = ask_behind(ahead, *[wins(i, i) for i in range(4)])
        self.assertEqual(told, [[0, 0]] * 4)

    def test_times_at_their_ends(self):
        told = ask_behind([BEGIN, candidates(2)], ballot([0, 1], 0), wins(0, 1), ballot([0, 1], MOST_TIMES),
                          wins(0, 1), wins(1, 0), ballot([0, 1], MOST_TIMES), wins(0, 1))
        self.assertEqual(told, [[0], [0, 0], [1], [0, MOST_TIMES], [0, 0], [2], [0, 2 * MOST_TIMES]])

    def test_the_most_there_can_be(self):
        ahead = [BEGIN, candidates(2)] + [ballot([1, 0], MOST_TIMES)] * 256
        told = ask_behind(ahead, wins(1, 0), wins(0, 1), ballot([1, 0]), wins(1, 0))
        self.assertEqual(told, [[0, 1099511627520], [0, 0], [-2], [0, 1099511627520]])

    def test_no_candidate(self):
        for n in (1, 2, 6):
            for wrong in (LEAST, -n, -1, n, n + 1, 12, 255, MOST):
                if 0 <= wrong < n:
                    continue
                with self.subTest(n=n, wrong=wrong):
                    told = ask_behind([BEGIN, candidates(n), ballot(range(n))],
                                      wins(wrong, 0), wins(0, wrong), wins(n - 1, wrong),
                                      wins(wrong, wrong), wins(0, n - 1))
                    self.assertEqual(told, [[-1]] * 4 + [[0, 1 if n > 1 else 0]])

    def test_asking_changes_nothing(self):
        asked = [wins(0, 1), wins(1, 0), FIRST, SMALLEST]
        ahead = [BEGIN, candidates(3), ballot([1, 2, 0], 6)]
        told = ask_behind(ahead, *asked, wins(3, 0), *asked, ballot([0, 1, 2]))
        self.assertEqual(told, [[0, 0], [0, 6], [1], [2], [-1], [0, 0], [0, 6], [1], [2], [1]])


if __name__ == "__main__":
    unittest.main()
