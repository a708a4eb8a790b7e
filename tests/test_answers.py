"""The interface: what is handed in, what is given back."""

import unittest

from matchkeeper.referee import answers
from tests.calls import (
    RED, YELLOW, ask, at_kicks, card, change, first, flat, goal, kick, kicking, minute, on, period, probe, score,
    send_off, shoot, shots, split, start, stop, tick, whistle, won,
)

WHOLE = flat([
    start(59, 0), start(60, 60), change(0, 0, 11), kick(), tick(30), card(0, 3, YELLOW), stop(1), tick(12),
    change(1, 4, 12), change(1, 4, 13), card(1, 9, RED), on(1), stop(0), goal(0, 11), minute(), tick(30), whistle(),
    kick(), stop(2), tick(0), goal(0, 9, 1), tick(60), whistle(), whistle(), score(), kick(), tick(60), whistle(),
    minute(), kick(), tick(60), whistle(), first(1), shoot(1, 0, 1), shoot(0, 1, 0), shoot(1, 1, 1), shoot(0, 2, 0),
    shoot(1, 2, 1), won(), shoot(0, 0, 1), shoot(0, 4, 0), won(), kick(), on(2), score(), start(60, 0), won(),
])

WHOLE_ANSWERS = [
    -22, 0, 4, 1, 30, 0, 0, 42, 4, -61, 1, (10, 2047 - 16 - 512 + 4096), 0, 1, (0, 1, 0), 72, 1,
    2, -22, -22, 1, 60, 2, -11, (2, 1, 1), 3, 60, 3,
    -11, 4, 60, 4, 0, 0, 0, 0, 0, 0, 0, -61, 2, 2, -41, -22, (4, 1, 1), 0, 0,
]


class AnswersTest(unittest.TestCase):
    def test_a_match_as_a_whole(self):
        self.assertEqual(WHOLE_ANSWERS, split(answers(WHOLE)))

    def test_a_list_of_whole_numbers(self):
        given = answers(WHOLE)
        self.assertIs(list, type(given))
        self.assertEqual({int}, {type(number) for number in given})

    def test_one_call(self):
        self.assertEqual([1, 0], answers([0, 60, 0]))
        self.assertEqual([1, -22], answers([0, 0, 0]))

    def test_each_call_by_its_number(self):
        calls = [0, 60, 0, 1, 2, 60, 3, 1, 4, 5, 0, 0, 1, 6, 1, 10, 17]
        self.assertEqual([1, 0, 1, 1, 1, 60, 1, 0, 1, 1, 1, 1, 1, 4], answers(calls))
        calls = [0, 60, 0, 1, 2, 60, 7, 1, 10, 0, 10, 11, 0, 12, 7, 1, 10, 1, 4, 1, 2, 60, 4, 8, 1, 9, 1, 10, 1, 13]
        self.assertEqual([1, 0, 1, 1, 1, 60, 1, 1, 3, 0, 0, 1, 2, 11, 2047, 3, 0, 1, 1, 1, 1, 1, 1, 1, 2, 1, 60, 1, 2,
                          1, 0, 1, 0, 1, 0], answers(calls))

    def test_the_order_of_what_is_handed_over(self):
        before = [start(60, 0), change(1, 3, 17), kick()]
        self.assertEqual([1, -61, -61, 1], ask(*before, goal(1, 17, 0), goal(0, 17, 0), goal(1, 3, 0),
                                               goal(1, 17, 1))[-4:])
        self.assertEqual([-61, 0], ask(*before[:2], *period() * 2, first(1), shoot(1, 3, 0), shoot(1, 17, 0))[-2:])

    def test_what_is_handed_in_stays_as_it_was(self):
        calls = list(WHOLE)
        answers(calls)
        self.assertEqual(WHOLE, calls)

    def test_what_is_given_back_is_the_caller_s_own(self):
        first = answers(WHOLE)
        kept = list(first)
        first.clear()
        self.assertEqual(kept, answers(WHOLE))

    def test_one_time_does_not_touch_the_next(self):
        fresh = flat([start(60, 0), *probe()])
        alone = answers(fresh)
        others = ([*at_kicks()], [start(60, 0), kick(), stop(1), change(0, 0, 11)], [start(60, 0), kick(), goal(0, 1)],
                  [*kicking(1), *shots(1, (1, 0, 1))], [*kicking(0), *shots(0, (1, 0, 1, 0, 1, 0))],
                  [start(60, 0), *send_off(0, range(5))])
        for before in (WHOLE, *[flat(calls) for calls in others]):
            answers(before)
            self.assertEqual(alone, answers(fresh))
            self.assertEqual(answers(before), answers(before))

    def test_three_thousand_calls(self):
        calls = flat([start(60, 0), kick()] + [stop(1), stop(0)] * 1499)
        self.assertEqual([1, 0, 1, 1] + [1, 0] * 2998, answers(calls))

    def test_three_thousand_starts(self):
        self.assertEqual([1, 0] * 3000, answers(start(60, 60) * 3000))

    def test_three_thousand_asks(self):
        calls = [start(60, 0), kick()] + [goal(0, 1), score(), on(0), minute(), won(), first(0)] * 499
        told = ask(*calls, *[won()] * 4)
        self.assertEqual(3000, len(told))
        self.assertEqual([499, (0, 499, 0), (11, 2047), (0, 1, 0), 0, -11, 0, 0, 0, 0], told[-10:])

    def test_three_thousand_calls_of_three_numbers(self):
        calls = flat([start(60, 0), kick()] + [goal(0, 1, 1)] * 2998)
        kept = list(calls)
        self.assertEqual([1, 0, 1, 1] + [part for number in range(1, 2999) for part in (1, number)], answers(calls))
        self.assertEqual(kept, calls)

    def test_three_thousand_calls_of_a_match_that_is_over(self):
        calls = [start(60, 0), *send_off(1, range(5))] + [kick(), card(0, 0, RED), won()] * 998
        self.assertEqual([0, 1, 1, 1, 1, 1] + [-41, -41, 1] * 998, ask(*calls))
