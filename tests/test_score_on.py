"""Points 11 and 12: score, on and won."""

from matchkeeper.referee import answers
from tests.calls import (
    MISSED, RED, SCORED, TOP, YELLOW, CallTest, ask, at_kicks, card, change, first, flat, goal, kick, kicking, last,
    minute, on, period, score, send_off, shoot, shots, start, stop, tick, whistle, won,
)

ALL_ON = 2047


class ScoreTest(CallTest):
    def test_answers_three_numbers(self):
        self.assertEqual([1, 0, 3, 0, 0, 0], answers(flat([start(60, 0), score()])))

    def test_before_the_first_period(self):
        self.assertEqual([0, (0, 0, 0)], ask(start(60, 60), score()))

    def test_one_that_runs_was_not_played_yet(self):
        calls = [kick(), score(), tick(60), score(), whistle(), score(), kick(), score()]
        self.assertEqual([1, (0, 0, 0), 60, (0, 0, 0), 1, (1, 0, 0), 2, (1, 0, 0)], ask(start(60, 0), *calls)[1:])

    def test_a_whistle_too_early_ends_no_period(self):
        self.assertEqual([-35, (0, 0, 0)], ask(start(60, 0), kick(), tick(59), whistle(), score())[-2:])

    def test_behind_each_period(self):
        scored = ([goal(0, 9)], [goal(1, 9)], [goal(0, 9), goal(1, 9, 1)], [goal(0, 4, 1)])
        before = [start(60, 60)]
        for within, told in zip(scored, ((1, 1, 0), (2, 1, 1), (3, 3, 1), (4, 3, 2))):
            before += period(60, *within)
            self.assertEqual(told, last(*before, score()))

    def test_behind_a_goal_at_once(self):
        before = [start(60, 0), kick(), goal(1, 9), score(), goal(1, 9, 1), score()]
        self.assertEqual([1, (0, 0, 1), 1, (0, 1, 1)], ask(*before)[-4:])

    def test_kicks_do_not_count(self):
        before = [start(60, 0), *period(60, goal(0, 9), goal(1, 9)), *period()]
        calls = [score(), first(0), shoot(0, 0, SCORED), score(), shoot(1, 0, MISSED), *[
            shoot(number % 2, 1 + number // 2, 1 - number % 2) for number in range(4)], won(), score()]
        told = ask(*before, *calls)[len(before):]
        self.assertEqual([(2, 1, 1), 0, 0, (2, 1, 1)], told[:4])
        self.assertEqual([1, (2, 1, 1)], told[-2:])

    def test_behind_cards_that_end_it(self):
        before = [start(60, 0), *period(60, goal(0, 9)), kick(), *send_off(0, range(5))]
        self.assertEqual([2, (1, 1, 0)], ask(*before, won(), score())[-2:])


class OnTest(CallTest):
    def test_answers_two_numbers_or_a_refusal(self):
        self.assertEqual([1, 0, 2, 11, 2047, 2, 11, 2047, 1, -22],
                         answers(flat([start(60, 0), on(0), on(1), on(2)])))

    def test_team_above_1(self):
        for before in ([start(60, 0)], [start(60, 0), kick()], at_kicks(), kicking()):
            for team in (2, 3, TOP):
                self.assert_refused(-22, before, on(team))

    def test_behind_changes(self):
        before = [start(60, 0), change(0, 0, 11)]
        self.assertEqual([(11, ALL_ON - 1 + 2048), (11, ALL_ON)], ask(*before, on(0), on(1))[-2:])
        before += [change(1, 10, 17), change(0, 11, 12)]
        self.assertEqual([(11, ALL_ON - 1 + 4096), (11, ALL_ON - 1024 + 131072)], ask(*before, on(0), on(1))[-2:])

    def test_behind_a_refused_change(self):
        before = [start(60, 0), kick(), change(0, 0, 11)]
        self.assertEqual([-16, (11, ALL_ON)], ask(*before, on(0))[-2:])

    def test_behind_cards(self):
        before = [start(60, 0), kick(), card(0, 0, RED), card(1, 10, YELLOW)]
        self.assertEqual([(10, ALL_ON - 1), (11, ALL_ON)], ask(*before, on(0), on(1))[-2:])
        before += [card(1, 10, YELLOW), card(0, 10, RED)]
        self.assertEqual([(9, ALL_ON - 1025), (10, ALL_ON - 1024)], ask(*before, on(0), on(1))[-2:])

    def test_behind_a_card_of_one_who_is_not_on(self):
        before = [start(60, 0), change(0, 3, 11), card(0, 3, RED), card(0, 17, RED)]
        self.assertEqual((11, ALL_ON - 8 + 2048), last(*before, on(0)))

    def test_behind_changes_and_cards(self):
        before = [start(60, 0), change(1, 5, 15), change(1, 6, 16), card(1, 15, RED), card(1, 0, RED)]
        self.assertEqual([(11, ALL_ON), (9, ALL_ON - 32 - 64 - 1 + 65536)], ask(*before, on(0), on(1))[-2:])

    def test_each_player_s_bit(self):
        for player in range(11):
            self.assertEqual((10, ALL_ON - (1 << player)), last(start(60, 0), card(1, player, RED), on(1)))
        for player in range(11, 18):
            self.assertEqual((11, ALL_ON - 1 + (1 << player)), last(start(60, 0), change(0, 0, player), on(0)))

    def test_fewer_than_seven_once_it_is_over(self):
        before = [start(60, 0), *send_off(0, range(5))]
        self.assertEqual([(6, ALL_ON - 31), (11, ALL_ON)], ask(*before, on(0), on(1))[-2:])

    def test_at_kicks(self):
        before = [*kicking(), shoot(0, 0, SCORED), card(0, 0, RED)]
        self.assertEqual([(10, ALL_ON - 1), (11, ALL_ON)], ask(*before, on(0), on(1))[-2:])


class WonTest(CallTest):
    def test_while_it_is_not_over(self):
        befores = ([start(60, 60)], [start(60, 60), kick()], [start(60, 60), kick(), goal(0, 9)],
                   [start(60, 60), *period(60, goal(0, 9))], [start(60, 60), *period(), kick(), goal(1, 9), tick(60)],
                   [start(60, 60), *period(), *period()], [start(60, 60), *period() * 2, *period(60, goal(0, 9))],
                   [start(60, 60), *period() * 4], at_kicks(), kicking(),
                   [*kicking(), *shots(0, (1, 0, 1, 0, 1))], [start(60, 0), kick(), *send_off(0, range(4))])
        for before in befores:
            with self.subTest(before=before[-6:]):
                self.assertEqual([1, 0], answers(flat([*before, won()]))[-2:])
                self.assertEqual(0, last(*before, won()))

    def test_by_goals_behind_period_2(self):
        self.assertEqual([2, 1], ask(start(60, 60), *period(60, goal(0, 9)), *period(), won())[-2:])
        self.assertEqual([2, 2], ask(start(60, 60), *period(60, goal(0, 9, 1)), *period(), won())[-2:])

    def test_by_goals_behind_period_4(self):
        self.assertEqual([4, 1], ask(start(60, 60), *period() * 3, *period(60, goal(0, 9)), won())[-2:])
        self.assertEqual([4, 2], ask(start(60, 60), *period() * 3, *period(60, goal(1, 9)), won())[-2:])

    def test_by_kicks(self):
        self.assertEqual([1, 1], ask(*kicking(0), *shots(0, (1, 0, 1, 0, 1, 0)), won())[-2:])
        self.assertEqual([2, 2], ask(*kicking(0), *shots(0, (0, 1, 0, 1, 0, 1)), won())[-2:])
        self.assertEqual([2, 2], ask(*kicking(1), *shots(1, (1, 0, 1, 0, 1, 0)), won())[-2:])

    def test_because_the_other_team_is_too_few(self):
        self.assertEqual([1, 2], ask(start(60, 0), *send_off(0, range(5)), won())[-2:])
        self.assertEqual([1, 1], ask(start(60, 0), *send_off(1, range(5)), won())[-2:])

    def test_asking_changes_nothing(self):
        for before in ([start(60, 0)], [start(60, 0), kick(), tick(70), stop(1)], at_kicks(), kicking(),
                       [start(60, 0), *send_off(0, range(5))]):
            for call in (score(), on(0), on(1), minute(), won()):
                self.assert_unchanged(before, call)
