"""Points 5 and 6: when a match is over, and who has won it."""

import unittest

from matchkeeper.game import Game
from tests.calls import RED, YELLOW


def send_off(game, team, players):
    return [game.card(team, player, RED) for player in players]


def play_periods(game, count):
    for number in range(count):
        game.kick()
        game.tick(60)
        game.whistle()


class TooFewTest(unittest.TestCase):
    def test_seven_are_enough_and_six_too_few(self):
        for team, winner in ((0, 2), (1, 1)):
            game = Game(60, 0)
            send_off(game, team, range(4))
            self.assertEqual(0, game.winner)
            self.assertEqual([1], send_off(game, team, [4]))
            self.assertEqual(winner, game.winner)

    def test_by_a_second_yellow(self):
        game = Game(60, 0)
        send_off(game, 0, range(4))
        game.card(0, 4, YELLOW)
        self.assertEqual(0, game.winner)
        game.card(0, 4, YELLOW)
        self.assertEqual(2, game.winner)

    def test_those_sent_off_from_the_bench_or_when_out_do_not_count(self):
        game = Game(60, 0)
        game.change(0, 0, 11)
        send_off(game, 0, [0, 12, 13, 14, 15, 16, 17])
        send_off(game, 0, range(1, 5))
        self.assertEqual(0, game.winner)
        send_off(game, 0, [11])
        self.assertEqual(2, game.winner)

    def test_each_team_for_itself(self):
        game = Game(60, 0)
        send_off(game, 0, range(4))
        send_off(game, 1, range(4))
        self.assertEqual(0, game.winner)

    def test_while_a_period_runs_in_a_rest_and_at_kicks(self):
        for played in range(3):
            game = Game(60, 0)
            play_periods(game, played)
            send_off(game, 1, range(5))
            self.assertEqual(1, game.winner)
        game = Game(60, 0)
        game.kick()
        send_off(game, 1, range(5))
        self.assertEqual(1, game.winner)


class ScoredMoreTest(unittest.TestCase):
    def winners(self, extra, scored, periods):
        game = Game(60, extra)
        game.scored = scored
        found = []
        for number in range(periods):
            play_periods(game, 1)
            found.append((game.winner, game.at_kicks))
        return found

    def test_behind_period_2(self):
        for extra in (0, 60):
            self.assertEqual([(0, False), (1, False)], self.winners(extra, [1, 0], 2))
            self.assertEqual([(0, False), (2, False)], self.winners(extra, [1, 2], 2))

    def test_level_behind_period_2(self):
        self.assertEqual([(0, False), (0, True)], self.winners(0, [1, 1], 2))
        self.assertEqual([(0, False), (0, False)], self.winners(60, [1, 1], 2))

    def test_behind_period_4(self):
        for scored, winner in (([2, 1], 1), ([1, 2], 2), ([2, 2], 0)):
            game = Game(60, 60)
            play_periods(game, 2)
            game.scored = scored
            play_periods(game, 1)
            self.assertEqual((0, False), (game.winner, game.at_kicks))
            play_periods(game, 1)
            self.assertEqual((winner, winner == 0), (game.winner, game.at_kicks))
