"""Point 8: goal."""

import unittest

from matchkeeper.game import Game
from tests.calls import (
    RED, TOP, YELLOW, CallTest, ask, at_kicks, card, change, goal, kick, kicking, period, score, start, standing,
    stop, tick, whistle, won,
)

GOING_ON = [start(60, 60), kick()]
STANDING = [*GOING_ON, stop(1)]
FIRST_REST = [start(60, 60)]
RESTS = ([start(60, 60), *period()], [start(60, 60), *period() * 2], [start(60, 60), *period() * 3])


class RefusalTest(CallTest):
    def test_just_above_what_is_allowed(self):
        beyond = (goal(2, 0), goal(TOP, 0), goal(0, 18), goal(1, 18), goal(0, TOP), goal(0, 0, 2), goal(1, 10, 2),
                  goal(0, 0, TOP), goal(2, 18, 2), goal(TOP, TOP, TOP))
        self.assert_all_refused(-22, (GOING_ON, STANDING, FIRST_REST, *RESTS, at_kicks(), kicking()), beyond)

    def test_while_play_stands(self):
        calls = (goal(0, 0), goal(1, 10), goal(0, 0, 1))
        self.assert_all_refused(-16, (STANDING, [*GOING_ON, tick(60), *standing(), stop(1)]), calls)

    def test_before_the_first_kick_and_in_a_rest(self):
        self.assert_all_refused(-16, (FIRST_REST, *RESTS), (goal(0, 0), goal(1, 10), goal(1, 0, 1)))

    def test_when_it_came_to_kicks(self):
        befores = (at_kicks(), kicking(), [start(60, 60), *period() * 4])
        self.assert_all_refused(-16, befores, (goal(0, 0), goal(1, 10), goal(1, 0, 1)))

    def test_one_who_is_not_on(self):
        for own in (0, 1):
            self.assert_refused(-61, GOING_ON, goal(0, 11, own))
            self.assert_refused(-61, GOING_ON, goal(1, 17, own))
            self.assert_refused(-61, [start(60, 0), change(0, 3, 11), kick()], goal(0, 3, own))
            self.assert_refused(-61, [*GOING_ON, card(1, 3, RED)], goal(1, 3, own))
            self.assert_refused(-61, [*GOING_ON, card(1, 3, YELLOW), card(1, 3, YELLOW)], goal(1, 3, own))
            self.assert_refused(-61, [*GOING_ON, card(1, 12, RED)], goal(1, 12, own))

    def test_play_that_stands_is_told_ahead_of_one_who_is_not_on(self):
        sent_off = [start(60, 0), card(0, 3, RED), change(0, 4, 11)]
        befores = (sent_off, [*sent_off, kick(), stop(1)], [*sent_off, *period(), *period()])
        self.assert_all_refused(-16, befores, (goal(0, 3), goal(0, 4), goal(0, 17), goal(0, 3, 1)))

    def test_out_of_range_is_told_ahead_of_one_who_is_not_on(self):
        self.assert_all_refused(-22, (GOING_ON,), (goal(2, 11), goal(0, 11, 2), goal(1, 18)))


class CountTest(CallTest):
    def test_how_many_it_has_scored(self):
        calls = [goal(0, 9), goal(0, 9), goal(1, 0), goal(0, 10), goal(1, 0)]
        self.assertEqual([1, 2, 1, 3, 2, (0, 3, 2)], ask(*GOING_ON, *calls, score())[2:])

    def test_own_0_counts_for_the_team_itself(self):
        self.assertEqual([1, (0, 1, 0)], ask(*GOING_ON, goal(0, 5, 0), score())[2:])
        self.assertEqual([1, (0, 0, 1)], ask(*GOING_ON, goal(1, 5, 0), score())[2:])

    def test_own_1_counts_for_the_other_one(self):
        self.assertEqual([1, (0, 0, 1)], ask(*GOING_ON, goal(0, 5, 1), score())[2:])
        self.assertEqual([1, (0, 1, 0)], ask(*GOING_ON, goal(1, 5, 1), score())[2:])

    def test_answered_is_the_count_of_the_one_for_which_it_counts(self):
        calls = [goal(0, 1), goal(0, 1), goal(0, 2, 1), goal(1, 3, 1), goal(1, 4), goal(0, 5, 1)]
        self.assertEqual([1, 2, 1, 3, 2, 3, (0, 3, 3)], ask(*GOING_ON, *calls, score())[2:])

    def test_own_goal_needs_the_player_on_in_their_own_team(self):
        before = [*GOING_ON, card(0, 5, RED)]
        self.assertEqual([-61, 1], ask(*before, goal(0, 5, 1), goal(1, 5, 1))[-2:])

    def test_everyone_who_is_on(self):
        every = [goal(team, player) for player in range(11) for team in (0, 1)]
        self.assertEqual([number for number in range(1, 12) for team in (0, 1)], ask(*GOING_ON, *every)[2:])

    def test_one_who_came_in_and_one_with_a_yellow(self):
        before = [start(60, 0), change(0, 3, 17), card(0, 5, YELLOW), kick()]
        self.assertEqual([1, 2], ask(*before, goal(0, 17), goal(0, 5))[-2:])

    def test_whenever_play_goes_on(self):
        before = [start(60, 60)]
        for number in range(4):
            before += [kick(), goal(0, 0), goal(1, 0), stop(1), goal(0, 0), stop(0), goal(0, 0, 1), goal(1, 0, 1),
                       tick(60), whistle(), goal(0, 0)]
            done = 2 * number
            self.assertEqual([number + 1, done + 1, done + 1, 0, -16, 0, done + 2, done + 2, 60, number + 1, -16],
                             ask(*before)[-11:])

    def test_a_goal_stops_neither_play_nor_the_clock(self):
        self.assertEqual([1, 2, -16, 60, 1], ask(*GOING_ON, goal(0, 9), goal(0, 9), stop(0), tick(60), whistle())[2:])

    def test_beyond_the_length_of_its_period(self):
        before = [start(60, 0), *period(), kick(), tick(61)]
        self.assertEqual([1, 2, 2], ask(*before, goal(1, 9), whistle(), won())[-3:])

    def test_goals_are_each_match_s_own(self):
        self.assertEqual([1, (0, 1, 0)], ask(*GOING_ON, goal(0, 9), goal(1, 9), *GOING_ON, goal(0, 9), score())[-2:])


class MillionTest(unittest.TestCase):
    """A list has too few calls for 1,000,000 goals, so the class behind the interface is asked."""

    def running(self, scored):
        game = Game(60, 0)
        game.kick()
        game.field.scored = scored
        return game

    def test_up_to_a_million(self):
        for team, own in ((0, 0), (1, 1)):
            game = self.running([999999, 0])
            self.assertEqual([1000000, -28], [game.goal(team, 3, own), game.goal(team, 3, own)])
            self.assertEqual([0, 1000000, 0], game.score())

    def test_of_the_one_for_which_it_would_count(self):
        game = self.running([1000000, 0])
        self.assertEqual([1, 2], [game.goal(0, 3, 1), game.goal(1, 3, 0)])
        self.assertEqual([-28, -28], [game.goal(0, 3, 0), game.goal(1, 3, 1)])
        self.assertEqual([0, 1000000, 2], game.score())

    def test_told_last(self):
        game = self.running([1000000, 1000000])
        self.assertEqual([-22, -61, -28], [game.goal(0, 18, 0), game.goal(0, 11, 0), game.goal(0, 0, 0)])
        game.stop(1)
        self.assertEqual(-16, game.goal(0, 0, 0))
