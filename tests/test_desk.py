"""The interface: how calls are handed in and answers given back."""

import contextlib
import io
import random
import unittest

from asking import (BEGIN, CALMEST, FIRST, HEADS, NO_ORDERS_OF_THREE, RANKED, SMALLEST, UNCOVERED, ask,
                    ask_behind, ballot, candidates, line, order_told, take_apart, turns, wins)
from turnvotes.desk import answers

SOME = line([BEGIN, candidates(3), ballot([1, 0, 2], 4), ballot([0, 0, 2]), wins(1, 2), wins(1, 3),
             FIRST, SMALLEST, UNCOVERED, HEADS, turns([2, 0, 1]), turns([2, 0]), CALMEST, RANKED,
             candidates(0), BEGIN, FIRST, UNCOVERED, HEADS, turns([2, 0, 1]), CALMEST, RANKED])
SOME_TOLD = ([1, 0, 1, 0, 1, 0, 1, -1, 2, 0, 4, 1, -1, 1, 1, 1, 2, 1, 2, 1, 2, 1, 1, 1, -1]
             + [13, 3, 1, 0, 2, 0, 0, 0, 0, 0, 0, 0, 0, 0] * 2 + [1, -1, 1, 0] + [1, -4] * 6)

NEW = [UNCOVERED, HEADS, turns([0, 1, 2]), turns([1, 0]), turns([]), CALMEST, RANKED]
ASKED = NEW + [wins(0, 1), wins(2, 1), wins(3, 0), FIRST, SMALLEST, turns([2, 1, 0]), turns([0, 0, 1])]
CHANGING = [BEGIN, candidates(3), candidates(3), candidates(2), candidates(13), ballot([0, 1, 2], 0),
            ballot([1, 2, 0]), ballot([2, 0, 1], 2), ballot([2, 1, 0], 3), ballot([0, 1], 4)]


def refuse(self, *given, **named):
    raise AssertionError("what is handed in was changed")


class Unchanging(list):
    """A list that fails as soon as something would change it."""

    append = clear = extend = insert = pop = remove = reverse = sort = refuse
    __setitem__ = __delitem__ = __iadd__ = __imul__ = refuse


class DeskTest(unittest.TestCase):
    def test_without_calls_there_are_no_answers(self):
        self.assertEqual(answers([]), [])

    def test_each_answer_has_its_length_before_it(self):
        self.assertEqual(answers(SOME), SOME_TOLD)

    def test_gives_back_a_list_of_whole_numbers(self):
        told = answers(SOME)
        self.assertIs(type(told), list)
        self.assertEqual({type(number) for number in told}, {int})

    def test_the_list_handed_in_is_as_it_was(self):
        for calls in ([], SOME):
            handed = list(calls)
            told = answers(handed)
            self.assertEqual(handed, calls)
            self.assertIsNot(told, handed)

    def test_the_list_handed_in_is_not_changed_for_a_while_either(self):
        self.assertEqual(answers(Unchanging(SOME)), SOME_TOLD)

    def test_the_same_list_again_answers_the_same(self):
        handed = list(SOME)
        self.assertEqual([answers(handed) for turn in range(3)], [SOME_TOLD] * 3)

    def test_nothing_is_kept_from_one_time_to_the_next(self):
        full = line([BEGIN, candidates(2)] + [ballot([1, 0])] * 256)
        answers(full)
        self.assertEqual(answers(BEGIN + FIRST), [1, 0, 1, -4])
        self.assertEqual(answers(line([BEGIN, candidates(2), wins(1, 0), ballot([0, 1])])),
                         [1, 0, 1, 0, 2, 0, 0, 1, 0])
        self.assertEqual(answers(SOME), SOME_TOLD)

    def test_what_is_given_back_may_be_changed(self):
        answers(SOME).clear()
        answers([]).append(5)
        self.assertEqual(answers([]), [])
        self.assertEqual(answers(SOME), SOME_TOLD)

    def test_numbers_like_those_of_calls_are_not_taken_for_calls(self):
        calls = [BEGIN, candidates(6), ballot([5, 4, 3, 2, 1, 0], 5), wins(5, 4), wins(4, 5), FIRST]
        self.assertEqual(take_apart(answers(line(calls))), [[0], [0], [0], [0, 5], [0, 0], [5]])

    def test_300_calls(self):
        calls = [BEGIN, candidates(6)] + [ballot([5, 4, 3, 2, 1, 0], 1)] * 256 + [SMALLEST] * 42
        self.assertEqual(len(calls), 300)
        self.assertEqual(take_apart(answers(line(calls))),
                         [[0], [0]] + [[before] for before in range(256)] + [[32]] * 42)

    def test_300_calls_of_each_new_kind(self):
        for call, told in ((UNCOVERED, [63]), (HEADS, [63]), (turns([5, 4, 3, 2, 1, 0]), [5]),
                           (CALMEST, order_told(range(6))), (RANKED, order_told(range(6)))):
            self.assertEqual(ask_behind([BEGIN, candidates(6)], *[call] * 298), [told] * 298)

    def test_calls_that_ask_change_nothing(self):
        for n in range(1, 4):
            cast = [ballot(list(range(n)), 2), ballot(list(range(n))[::-1], 1)]
            ahead = [BEGIN, candidates(n)] + cast
            told = ask_behind(ahead, *ASKED)
            for call in ASKED:
                self.assertEqual(ask_behind(ahead, call, *ASKED)[1:], told, call)
            self.assertEqual(ask_behind(ahead, *ASKED, *ASKED, ballot(list(range(n))))[-1], [2])

    def test_refused_turns_change_nothing(self):
        ahead = [BEGIN, candidates(3), ballot([1, 2, 0], 3), ballot([0, 2, 1], 2)]
        told = ask_behind(ahead, *ASKED)
        for order in NO_ORDERS_OF_THREE:
            self.assertEqual(ask_behind(ahead, turns(order), *ASKED), [[-1]] + told, order)

    def test_the_new_calls_among_the_others_leave_their_answers(self):
        chance = random.Random(12)
        for turn in range(300):
            calls = [BEGIN, candidates(3)] + [chance.choice(CHANGING + ASKED) for place in range(40)]
            among = []
            for call in calls:
                among += [(call, True)] + [(new, False) for new in chance.sample(NEW, chance.randint(0, 3))]
            told = ask(*[call for call, kept in among])
            self.assertEqual([answer for answer, (call, kept) in zip(told, among) if kept], ask(*calls))

    def test_prints_nothing(self):
        out, err = io.StringIO(), io.StringIO()
        with contextlib.redirect_stdout(out), contextlib.redirect_stderr(err):
            answers(SOME)
        self.assertEqual(out.getvalue() + err.getvalue(), "")


if __name__ == "__main__":
    unittest.main()
