"""Point 11: minute."""

from matchkeeper.referee import answers
from tests.calls import (
    RED, CallTest, ask, at_kicks, card, flat, goal, kick, kicking, last, minute, period, send_off, start, stop, tick,
    to_million, whistle, won,
)

WHOLE_MINUTES = (
    (1, ((0, (1, 0)), (1, (1, 0)), (59, (1, 0)), (60, (2, 0)), (61, (2, 0)), (2639, (44, 0)), (2640, (45, 0)),
         (2699, (45, 0)), (2700, (45, 1)), (2701, (45, 1)), (2759, (45, 1)), (2760, (45, 2)), (3600, (45, 16)))),
    (2, ((0, (46, 0)), (1, (46, 0)), (59, (46, 0)), (60, (47, 0)), (2639, (89, 0)), (2640, (90, 0)), (2699, (90, 0)),
         (2700, (90, 1)), (2759, (90, 1)), (2760, (90, 2)))),
    (3, ((0, (91, 0)), (1, (91, 0)), (59, (91, 0)), (60, (92, 0)), (899, (105, 0)), (900, (105, 1)), (959, (105, 1)),
         (960, (105, 2)))),
    (4, ((0, (106, 0)), (1, (106, 0)), (59, (106, 0)), (60, (107, 0)), (899, (120, 0)), (900, (120, 1)),
         (959, (120, 1)), (960, (120, 2)))),
)

# Halves of 100 seconds and extra periods of 70: they begin behind 0, 100, 200 and 270 seconds.
BROKEN_MINUTES = (
    (1, ((0, (1, 0)), (1, (1, 0)), (59, (1, 0)), (60, (2, 0)), (99, (2, 0)), (100, (2, 1)), (119, (2, 1)),
         (120, (2, 1)), (159, (2, 1)), (160, (2, 2)), (220, (2, 3)))),
    (2, ((0, (2, 0)), (19, (2, 0)), (20, (3, 0)), (79, (3, 0)), (80, (4, 0)), (99, (4, 0)), (100, (4, 1)),
         (159, (4, 1)), (160, (4, 2)))),
    (3, ((0, (4, 0)), (39, (4, 0)), (40, (5, 0)), (69, (5, 0)), (70, (5, 1)), (129, (5, 1)), (130, (5, 2)))),
    (4, ((0, (5, 0)), (29, (5, 0)), (30, (6, 0)), (69, (6, 0)), (70, (6, 1)), (129, (6, 1)), (130, (6, 2)))),
)

# Halves of 61 seconds and extra periods of 119: they begin behind 0, 61, 122 and 241 seconds.
ONE_BESIDE_A_MINUTE = (
    (1, ((59, (1, 0)), (60, (2, 0)), (61, (2, 1)), (120, (2, 1)), (121, (2, 2)))),
    (2, ((0, (2, 0)), (58, (2, 0)), (59, (3, 0)), (60, (3, 0)), (61, (3, 1)))),
    (3, ((0, (3, 0)), (57, (3, 0)), (58, (4, 0)), (117, (4, 0)), (118, (5, 0)), (119, (5, 1)))),
    (4, ((0, (5, 0)), (58, (5, 0)), (59, (6, 0)), (118, (6, 0)), (119, (6, 1)), (178, (6, 1)), (179, (6, 2)))),
)


def running(half, extra, number):
    """The period of that number has just begun."""
    lengths = (half, half, extra, extra)
    return [start(half, extra), *[call for length in lengths[:number - 1] for call in period(length)], kick()]


class MinuteTest(CallTest):
    def assert_minutes(self, half, extra, rows):
        for number, told in rows:
            for seconds, numbers in told:
                with self.subTest(half=half, extra=extra, number=number, seconds=seconds):
                    ticks = [tick(seconds)] if seconds > 0 else []
                    self.assertEqual((0, *numbers), last(*running(half, extra, number), *ticks, minute()))

    def test_answers_three_numbers_or_a_refusal(self):
        self.assertEqual([1, 0, 1, -11, 1, 1, 3, 0, 1, 0], answers(flat([start(60, 0), minute(), kick(), minute()])))

    def test_none_runs(self):
        befores = ([start(60, 60)], at_kicks(), kicking(), *[[start(60, 60), *period() * played]
                                                             for played in range(1, 5)])
        for before in befores:
            self.assert_refused(-11, before, minute())
        self.assertEqual([0, -11], ask(start(60, 0), tick(3600), minute())[-2:])

    def test_whole_minutes(self):
        self.assert_minutes(2700, 900, WHOLE_MINUTES)

    def test_lengths_that_are_no_multiple_of_60(self):
        self.assert_minutes(100, 70, BROKEN_MINUTES)
        self.assert_minutes(61, 119, ONE_BESIDE_A_MINUTE)

    def test_shortest_and_longest(self):
        self.assert_minutes(60, 60, ((1, ((59, (1, 0)), (60, (1, 1)))), (2, ((0, (2, 0)), (60, (2, 1)))),
                                     (3, ((59, (3, 0)), (119, (3, 1)))), (4, ((59, (4, 0)), (120, (4, 2))))))
        self.assert_minutes(3600, 1800, ((1, ((3599, (60, 0)), (3600, (60, 1)))),
                                         (2, ((3599, (120, 0)), (3600, (120, 1)))),
                                         (4, ((1799, (180, 0)), (1800, (180, 1)), (3600, (180, 31))))))

    def test_without_extra_time(self):
        before = [start(100, 0), *period(100), kick()]
        self.assertEqual([(0, 2, 0), 99, (0, 4, 0), 100, (0, 4, 1)],
                         ask(*before, minute(), tick(99), minute(), tick(1), minute())[-5:])

    def test_earlier_periods_count_by_their_lengths(self):
        before = [start(60, 0), *period(3600), kick()]
        self.assertEqual([(0, 2, 0), 60, (0, 2, 1)], ask(*before, minute(), tick(60), minute())[-3:])

    def test_seconds_that_play_stood_count(self):
        before = [start(120, 0), kick(), tick(59), stop(1), tick(1), minute(), tick(60), minute(), stop(0), minute()]
        self.assertEqual([60, (0, 2, 0), 120, (0, 2, 1), 0, (0, 2, 1)], ask(*before)[-6:])

    def test_a_whistle_too_early_changes_nothing(self):
        before = [start(60, 0), kick(), stop(1), tick(90), whistle(), minute()]
        self.assertEqual([-35, (0, 1, 1)], ask(*before)[-2:])

    def test_a_million_seconds(self):
        before = [start(60, 0), *to_million(), minute(), tick(1), minute()]
        self.assertEqual([(0, 1, 16666), -28, (0, 1, 16666)], ask(*before)[-3:])

    def test_behind_a_card_that_ends_the_match_while_a_period_runs(self):
        before = [start(120, 0), kick(), tick(75), *send_off(0, range(5)), won()]
        self.assertEqual([2, (0, 2, 0), -41, (0, 2, 0)], ask(*before, minute(), tick(60), minute())[-4:])
        before = [start(60, 0), *period(), kick(), stop(1), tick(130), *send_off(1, range(5)), won()]
        self.assertEqual([1, (0, 2, 2), -41, (0, 2, 2)], ask(*before, minute(), whistle(), minute())[-4:])

    def test_behind_a_match_that_ended_otherwise(self):
        self.assertEqual([1, -11], ask(start(60, 0), *period(60, goal(0, 9)), *period(), won(), minute())[-2:])
        self.assertEqual([1, -11], ask(start(60, 0), *period(), *send_off(1, range(4)), card(1, 4, RED),
                                       minute())[-2:])
