"""The interface: what is handed in, what is given back."""

import unittest

from matchkeeper.referee import answers
from tests.calls import RED, YELLOW, at_kicks, card, change, flat, kick, probe, start, stop, tick, whistle

WHOLE = flat([
    start(59, 0), start(60, 60), change(0, 0, 11), kick(), tick(30), card(0, 3, YELLOW), stop(1), tick(12),
    change(1, 4, 12), change(1, 4, 13), card(1, 9, RED), stop(0), tick(30), whistle(), kick(), stop(2), tick(0),
    tick(60), whistle(), whistle(), kick(),
])

WHOLE_ANSWERS = [-22, 0, 4, 1, 30, 0, 0, 42, 4, -61, 1, 0, 72, 1, 2, -22, -22, 60, 2, -11, 3]


class AnswersTest(unittest.TestCase):
    def test_a_match_as_a_whole(self):
        given = answers(WHOLE)
        self.assertEqual([number for answer in WHOLE_ANSWERS for number in (1, answer)], given)

    def test_a_list_of_whole_numbers(self):
        given = answers(WHOLE)
        self.assertIs(list, type(given))
        self.assertEqual({int}, {type(number) for number in given})

    def test_one_call(self):
        self.assertEqual([1, 0], answers([0, 60, 0]))
        self.assertEqual([1, -22], answers([0, 0, 0]))

    def test_each_call_by_its_number(self):
        calls = [0, 60, 0, 1, 2, 60, 3, 1, 4, 5, 0, 0, 1, 6, 1, 10, 17]
        self.assertEqual([1, 0, 1, 1, 1, 60, 1, 0, 1, 1, 1, 1, 1, 4], answers(calls))

    def test_what_is_handed_in_stays_as_it_was(self):
        calls = list(WHOLE)
        answers(calls)
        self.assertEqual(WHOLE, calls)

    def test_what_is_given_back_is_the_caller_s_own(self):
        first = answers(WHOLE)
        kept = list(first)
        first.clear()
        self.assertEqual(kept, answers(WHOLE))

    def test_one_time_does_not_touch_the_next(self):
        fresh = flat([start(60, 0), *probe()])
        alone = answers(fresh)
        for before in (WHOLE, flat(at_kicks()), flat([start(60, 0), kick(), stop(1), change(0, 0, 11)])):
            answers(before)
            self.assertEqual(alone, answers(fresh))
            self.assertEqual(answers(before), answers(before))

    def test_three_thousand_calls(self):
        calls = flat([start(60, 0), kick()] + [stop(1), stop(0)] * 1499)
        self.assertEqual([1, 0, 1, 1] + [1, 0] * 2998, answers(calls))

    def test_three_thousand_starts(self):
        self.assertEqual([1, 0] * 3000, answers(start(60, 60) * 3000))
