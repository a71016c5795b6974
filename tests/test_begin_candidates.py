"""Promises 1 (begin) and 2 (candidates)."""

import unittest

from asking import (BEGIN, CALMEST, FIRST, HEADS, LEAST, MOST, RANKED, SMALLEST, UNCOVERED,
                    ask, ask_behind, ballot, candidates, turns, wins)

NEED_CANDIDATES = [ballot([0]), ballot([]), ballot([0, 0, 255], 0), wins(0, 0), wins(LEAST, MOST),
                   FIRST, SMALLEST, UNCOVERED, HEADS, turns([0]), turns([]), CALMEST, RANKED]


class BeginTest(unittest.TestCase):
    def test_answers_nought(self):
        self.assertEqual(ask(BEGIN), [[0]])

    def test_all_others_but_candidates_are_refused(self):
        for call in NEED_CANDIDATES:
            with self.subTest(call=call):
                self.assertEqual(ask(BEGIN, call), [[0], [-4]])

    def test_a_refused_call_is_read_to_its_end(self):
        self.assertEqual(ask(BEGIN, *NEED_CANDIDATES, BEGIN),
                         [[0]] + [[-4]] * len(NEED_CANDIDATES) + [[0]])

    def test_again_takes_the_candidates_away(self):
        ahead = [BEGIN, candidates(2), ballot([1, 0]), FIRST, BEGIN]
        for call in NEED_CANDIDATES:
            with self.subTest(call=call):
                self.assertEqual(ask(*ahead, call), [[0], [0], [0], [1], [0], [-4]])

    def test_again_takes_the_ballots_away(self):
        ahead = [BEGIN, candidates(2), ballot([1, 0]), BEGIN, candidates(2)]
        self.assertEqual(ask_behind(ahead, wins(1, 0), FIRST, ballot([0, 1]), ballot([0, 1])),
                         [[0, 0], [-2], [0], [1]])

    def test_again_at_once(self):
        self.assertEqual(ask(BEGIN, BEGIN, FIRST, BEGIN), [[0], [0], [-4], [0]])


class CandidatesTest(unittest.TestCase):
    def test_there_are_as_many_as_told(self):
        for n in range(1, 7):
            with self.subTest(n=n):
                order = list(range(n))
                told = ask_behind([BEGIN], candidates(n), wins(n - 1, n - 1), wins(n, n - 1),
                                  ballot(order), ballot(order + [n]), ballot(order[1:]))
                self.assertEqual(told, [[0], [0, 0], [-1], [0], [-1], [-1]])

    def test_there_are_no_ballots_at_first(self):
        told = ask_behind([BEGIN, candidates(3)], wins(0, 1), wins(2, 0), FIRST, SMALLEST,
                          ballot([0, 1, 2]))
        self.assertEqual(told, [[0, 0], [0, 0], [-2], [7], [0]])

    def test_again_takes_the_ballots_away(self):
        ahead = [BEGIN, candidates(3), ballot([2, 1, 0], 5), ballot([2, 0, 1])]
        told = ask_behind(ahead, FIRST, candidates(3), wins(2, 0), FIRST, SMALLEST,
                          ballot([0, 1, 2]), wins(2, 0), wins(0, 2), FIRST)
        self.assertEqual(told, [[2], [0], [0, 0], [-2], [7], [0], [0, 0], [0, 1], [0]])

    def test_again_with_more_and_with_fewer(self):
        told = ask_behind([BEGIN], candidates(2), wins(2, 0), candidates(5), wins(4, 0),
                          ballot([4, 3, 2, 1, 0]), FIRST, candidates(1), wins(1, 0), FIRST, SMALLEST)
        self.assertEqual(told, [[0], [-1], [0], [0, 0], [0], [4], [0], [-1], [0], [1]])

    def test_too_few_or_too_many(self):
        for n in (LEAST, -13, -12, -1, 0, 13, 14, 255, 256, MOST):
            with self.subTest(n=n):
                self.assertEqual(ask(BEGIN, candidates(n), FIRST, ballot([])), [[0], [-1], [-4], [-4]])

    def test_a_refusal_changes_nothing(self):
        for n in (LEAST, -1, 0, 13, MOST):
            with self.subTest(n=n):
                ahead = [BEGIN, candidates(2), ballot([1, 0], 3)]
                told = ask_behind(ahead, candidates(n), wins(1, 0), FIRST, ballot([0, 1]), wins(2, 0))
                self.assertEqual(told, [[-1], [0, 3], [1], [1], [-1]])


if __name__ == "__main__":
    unittest.main()
