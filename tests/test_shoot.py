"""Point 10: shoot."""

import itertools
import unittest

from matchkeeper.game import Game
from tests.calls import (
    MISSED, RED, SCORED, TOP, YELLOW, CallTest, ask, at_kicks, card, change, first, goal, kick, kicking, last, period,
    score, send_off, shoot, shots, start, stop, tick, won,
)

NOT_BEGUN = (
    [start(60, 0)], [start(60, 0), kick()], [start(60, 0), kick(), stop(1)], [start(60, 0), *period()],
    [start(60, 0), *period(), kick(), tick(60)], [start(60, 60), *period(), *period()], at_kicks(),
    [start(60, 60), *period() * 4],
)


def results(beginner, calls):
    """What shoots answer behind kicks that have begun."""
    before = kicking(beginner)
    return ask(*before, *calls)[len(before):]


class RefusalTest(CallTest):
    def test_just_above_what_is_allowed(self):
        beyond = (shoot(2, 0, 0), shoot(TOP, 0, 1), shoot(0, 18, 1), shoot(1, 18, 0), shoot(0, TOP, 1),
                  shoot(0, 0, 2), shoot(1, 0, 2), shoot(0, 10, TOP), shoot(2, 18, 2), shoot(TOP, TOP, TOP))
        befores = (kicking(0), kicking(1), [*kicking(0), shoot(0, 0, SCORED)], *NOT_BEGUN)
        self.assert_all_refused(-22, befores, beyond)

    def test_before_kicks_have_begun(self):
        calls = (shoot(0, 0, SCORED), shoot(1, 10, MISSED), shoot(0, 11, SCORED), shoot(1, 17, MISSED))
        self.assert_all_refused(-11, NOT_BEGUN, calls)

    def test_the_other_team_s_turn(self):
        for team in (0, 1):
            rival = 1 - team
            self.assert_refused(-37, kicking(team), shoot(rival, 0, SCORED))
            self.assert_refused(-37, [*kicking(team), shoot(team, 0, MISSED)], shoot(team, 1, SCORED))
            self.assert_refused(-37, [*kicking(team), *shots(team, (1, 1))], shoot(rival, 1, MISSED))
            self.assert_refused(-37, [*kicking(team), *shots(team, (1,) * 10)], shoot(rival, 5, MISSED))
            self.assert_refused(-37, [*kicking(team), *shots(team, (1,) * 11)], shoot(team, 6, SCORED))

    def test_the_other_team_s_turn_is_told_ahead_of_who_it_is(self):
        before = [*kicking(0, change(1, 4, 11), card(1, 3, RED)), *shots(0, (1, 1))]
        self.assert_all_refused(-37, (before,), (shoot(1, 0, 1), shoot(1, 3, 1), shoot(1, 4, 1), shoot(1, 12, 0)))

    def test_one_who_is_not_on(self):
        for team in (0, 1):
            before = kicking(team, change(team, 4, 11), card(team, 3, RED), card(team, 12, RED))
            for player in (3, 4, 12, 13, 17):
                for scored in (SCORED, MISSED):
                    self.assert_refused(-61, before, shoot(team, player, scored))
            self.assert_refused(-61, [*kicking(team), card(team, 5, RED)], shoot(team, 5, SCORED))

    def test_one_who_has_kicked_and_was_sent_off_is_not_on(self):
        before = [*kicking(0), *shots(0, (1, 1)), card(0, 0, RED)]
        self.assert_refused(-61, before, shoot(0, 0, SCORED))

    def test_one_who_has_kicked_in_the_round(self):
        for team in (0, 1):
            for taken in range(2, 22, 2):
                before = [*kicking(team), *shots(team, (SCORED,) * taken)]
                for player in range(taken // 2):
                    self.assertEqual(-17, last(*before, shoot(team, player, SCORED)))
                self.assert_refused(-17, before, shoot(team, 0, MISSED))
            self.assert_refused(-17, [*kicking(team), *shots(team, (1,) * 5)], shoot(1 - team, 1, SCORED))

    def test_one_who_scored_and_one_who_missed_have_both_kicked(self):
        for scored in (SCORED, MISSED):
            before = [*kicking(0), shoot(0, 7, scored), shoot(1, 7, scored)]
            self.assert_all_refused(-17, (before,), (shoot(0, 7, SCORED), shoot(0, 7, MISSED)))

    def test_rounds_are_each_team_s_own(self):
        self.assertEqual([0, 0], results(0, [shoot(0, 7, SCORED), shoot(1, 7, SCORED)]))

    def test_a_refused_one_has_not_kicked(self):
        before = kicking(0)
        refused = [shoot(1, 3, 1), shoot(0, 3, 2), shoot(0, 11, 1), shoot(2, 3, 1)]
        self.assertEqual([-37, -22, -61, -22, 0, 0], ask(*before, *refused, shoot(0, 3, 1), shoot(1, 3, 1))[-6:])

    def test_one_who_came_in_kicks(self):
        before = kicking(0, change(0, 4, 17), card(0, 5, YELLOW))
        self.assertEqual([0, 0, 0], ask(*before, shoot(0, 17, 1), shoot(1, 4, 1), shoot(0, 5, 1))[-3:])


class RoundTest(CallTest):
    def test_a_second_round_with_eleven(self):
        for team in (0, 1):
            rival = 1 - team
            before = [*kicking(team), *shots(team, (SCORED,) * 22)]
            for player in range(11):
                self.assertEqual([0, 0], ask(*before, shoot(team, player, 1), shoot(rival, player, 1))[-2:])
            again = [*before, shoot(team, 6, SCORED), shoot(rival, 10, SCORED)]
            self.assert_refused(-17, again, shoot(team, 6, SCORED))
            self.assertEqual([0, -17, 0], ask(*again, shoot(team, 10, 1), shoot(rival, 10, 1), shoot(rival, 6, 1))[-3:])

    def test_the_last_of_a_round_may_be_the_first_of_the_next(self):
        before = [*kicking(0), *shots(0, (SCORED,) * 22)]
        self.assertEqual([0, 0, -17], ask(*before, shoot(0, 10, 1), shoot(1, 10, 1), shoot(0, 10, 1))[-3:])

    def test_a_round_begins_with_the_kick_not_with_a_refused_one(self):
        before = [*kicking(0), *shots(0, (SCORED,) * 22)]
        refused = [shoot(1, 0, 1), shoot(0, 11, 1), shoot(0, 0, 2)]
        self.assertEqual([-37, -61, -22, 0, 0, -17], ask(*before, *refused, shoot(0, 5, 1), shoot(1, 5, 1),
                                                         shoot(0, 5, 1))[-6:])

    def test_rounds_of_eleven_and_of_nine(self):
        before = kicking(0, *send_off(1, (9, 10)))
        nine = [shoot(number % 2, number // 2, SCORED) for number in range(18)]
        calls = [*before, *nine, shoot(0, 0, 1), shoot(0, 9, 1), shoot(1, 0, 1), shoot(0, 9, 1), shoot(0, 10, 1),
                 shoot(1, 0, 1), shoot(1, 8, 1), shoot(0, 10, 1), shoot(0, 3, 1)]
        self.assertEqual([-17, 0, 0, -17, 0, -17, 0, 0, -37], ask(*calls)[-9:])

    def test_a_second_round_with_nine_left(self):
        for team in (0, 1):
            rival = 1 - team
            before = [*kicking(team, *send_off(0, (9, 10)), *send_off(1, (9, 10))), *shots(team, (SCORED,) * 16)]
            self.assert_refused(-17, before, shoot(team, 0, SCORED))
            before += [shoot(team, 8, SCORED), shoot(rival, 8, SCORED)]
            for player in range(9):
                self.assertEqual([0, 0], ask(*before, shoot(team, player, 1), shoot(rival, player, 1))[-2:])
            self.assert_refused(-61, before, shoot(team, 9, SCORED))

    def test_cards_between_kicks_of_those_who_have_kicked(self):
        before = [*kicking(0), *shots(0, (SCORED,) * 16), card(0, 0, RED), card(0, 3, RED)]
        self.assert_all_refused(-17, (before,), (shoot(0, 1, SCORED), shoot(0, 7, SCORED)))
        nine = [*before, shoot(0, 8, 1), shoot(1, 8, 1), shoot(0, 9, 1), shoot(1, 9, 1)]
        self.assert_refused(-17, nine, shoot(0, 1, SCORED))
        all_kicked = [*nine, shoot(0, 10, 1), shoot(1, 10, 1)]
        self.assertEqual([0, 0], ask(*all_kicked, shoot(0, 1, SCORED), shoot(1, 0, SCORED))[-2:])
        self.assert_all_refused(-61, (all_kicked,), (shoot(0, 0, SCORED), shoot(0, 3, SCORED)))

    def test_cards_between_kicks_of_those_who_have_not(self):
        before = [*kicking(0), *shots(0, (SCORED,) * 18), card(0, 10, RED)]
        self.assert_refused(-17, before, shoot(0, 0, SCORED))
        nine = [*before, card(0, 9, RED)]
        self.assertEqual([0, -17, 0, -17], ask(*nine, shoot(0, 0, 1), shoot(1, 0, 1), shoot(1, 9, 1),
                                               shoot(0, 0, 1))[-4:])
        for player in range(9):
            self.assertEqual(0, last(*nine, shoot(0, player, SCORED)))

    def test_a_card_of_one_who_has_and_of_one_who_has_not(self):
        before = [*kicking(1), *shots(1, (SCORED,) * 20), card(1, 2, RED)]
        self.assert_refused(-17, before, shoot(1, 4, SCORED))
        self.assertEqual([1, 0], ask(*before, card(1, 10, RED), shoot(1, 4, SCORED))[-2:])

    def test_a_card_of_the_bench_ends_no_round(self):
        before = [*kicking(0), *shots(0, (SCORED,) * 20), *send_off(0, range(11, 18))]
        self.assert_refused(-17, before, shoot(0, 4, SCORED))

    def test_a_yellow_card_ends_no_round(self):
        before = [*kicking(0), *shots(0, (SCORED,) * 20), card(0, 10, YELLOW)]
        self.assert_refused(-17, before, shoot(0, 4, SCORED))
        self.assertEqual([1, 0], ask(*before, card(0, 10, YELLOW), shoot(0, 4, SCORED))[-2:])

    def test_a_third_round(self):
        before = [*kicking(0), *shots(0, (MISSED,) * 44)]
        self.assertEqual([0] * 44, ask(*before)[-44:])
        self.assertEqual([0, 0, -17], ask(*before, shoot(0, 4, 0), shoot(1, 4, 0), shoot(0, 4, 0))[-3:])


class DecidedTest(CallTest):
    def test_three_against_none(self):
        for team, winner in ((0, 1), (1, 2)):
            answers = results(team, shots(team, (1, 0, 1, 0, 1, 0)))
            self.assertEqual([0, 0, 0, 0, 0, winner], answers)

    def test_none_against_three(self):
        for team, winner in ((0, 2), (1, 1)):
            answers = results(team, shots(team, (0, 1, 0, 1, 0, 1)))
            self.assertEqual([0, 0, 0, 0, 0, winner], answers)

    def test_by_a_miss_of_the_first(self):
        for team, winner in ((0, 2), (1, 1)):
            answers = results(team, shots(team, (0, 1, 0, 1, 1, 1, 0)))
            self.assertEqual([0, 0, 0, 0, 0, 0, winner], answers)

    def test_not_while_the_other_one_could_be_level(self):
        answers = results(0, shots(0, (1, 0, 1, 0, 0, 1, 0, 1, 0, 0)))
        self.assertEqual([0] * 10, answers)
        self.assertEqual([0] * 5, results(0, shots(0, (1, 0, 1, 0, 1))))

    def test_with_the_fourth(self):
        self.assertEqual([0] * 6 + [1], results(0, shots(0, (1, 0, 1, 1, 1, 0, 1))))
        self.assertEqual([0] * 7 + [2], results(0, shots(0, (0, 1, 1, 1, 0, 1, 1, 1))))

    def test_with_the_fifth_of_the_first(self):
        self.assertEqual([0] * 8 + [1], results(0, shots(0, (1, 1, 1, 1, 1, 1, 1, 0, 1))))
        self.assertEqual([0] * 8 + [2], results(0, shots(0, (1, 1, 1, 1, 1, 1, 0, 1, 0))))

    def test_with_the_fifth_of_the_second(self):
        self.assertEqual([0] * 9 + [1], results(0, shots(0, (1, 1, 1, 1, 1, 1, 1, 1, 1, 0))))
        self.assertEqual([0] * 9 + [2], results(0, shots(0, (1, 1, 1, 1, 1, 1, 1, 1, 0, 1))))
        self.assertEqual([0] * 9 + [2], results(1, shots(1, (0, 0, 0, 0, 0, 0, 0, 0, 1, 0))))
        self.assertEqual([0] * 9 + [1], results(1, shots(1, (0, 0, 0, 0, 0, 0, 0, 0, 0, 1))))

    def test_level_behind_five_each(self):
        for scored in (SCORED, MISSED):
            level = (scored,) * 10
            for team, mine, theirs in ((0, 1, 2), (1, 2, 1)):
                self.assertEqual([0] * 11 + [mine], results(team, shots(team, (*level, 1, 0))))
                self.assertEqual([0] * 11 + [theirs], results(team, shots(team, (*level, 0, 1))))
                self.assertEqual([0] * 12, results(team, shots(team, (*level, 1, 1))))
                self.assertEqual([0] * 12, results(team, shots(team, (*level, 0, 0))))

    def test_one_more_each_again_and_again(self):
        level = (1,) * 10 + (1, 1, 0, 0, 1, 1, 0, 0, 0, 0)
        for team, mine, theirs in ((0, 1, 2), (1, 2, 1)):
            self.assertEqual([0] * 21 + [mine], results(team, shots(team, (*level, 1, 0))))
            self.assertEqual([0] * 21 + [theirs], results(team, shots(team, (*level, 0, 1))))

    def test_every_way_of_five_each(self):
        for beginner in (0, 1):
            for ways in itertools.product((SCORED, MISSED), repeat=10):
                told = results(beginner, shots(beginner, ways))
                self.assertEqual(expected(beginner, ways), told, (beginner, ways))

    def test_behind_it_the_match_is_over(self):
        for team, winner in ((0, 1), (1, 2)):
            before = [*kicking(team), *shots(team, (1, 0, 1, 0, 1, 0))]
            calls = [won(), shoot(team, 3, SCORED), first(0), card(0, 0, RED), start(60, 0), won()]
            self.assertEqual([winner, winner, -41, -41, -41, 0, 0], ask(*before, *calls)[-7:])

    def test_goals_of_the_match_do_not_count(self):
        before = [start(60, 0), *period(60, goal(0, 1), goal(1, 1), goal(0, 1), goal(1, 1)), *period(), first(0)]
        self.assertEqual([0, 0, 0, 0, 0, 1, (2, 2, 2)], ask(*before, *shots(0, (1, 0, 1, 0, 1, 0)), score())[-7:])

    def test_cards_take_no_kicks_away(self):
        before = kicking(0, *send_off(1, range(4)))
        self.assertEqual([0, 0, 0, 0, 0, 1], ask(*before, *[
            shoot(number % 2, 4 + number // 2, 1 - number % 2) for number in range(6)])[-6:])

    def test_a_red_card_that_ends_it(self):
        before = [*kicking(0), *shots(0, (1, 0, 1, 0)), *send_off(0, range(4))]
        self.assertEqual([0, 0, 1, 2, -41], ask(*before, won(), shoot(0, 7, 1), card(0, 4, RED), won(),
                                                shoot(1, 7, 1))[-5:])

    def test_a_match_of_many_kicks(self):
        for scored in (SCORED, MISSED):
            before = [*kicking(1), *shots(1, (scored,) * 2980)]
            self.assertEqual([0] * 2980, ask(*before)[-2980:])
            player = 2980 // 2 % 11
            self.assertEqual([0, 1], ask(*before, shoot(1, player, MISSED), shoot(0, player, SCORED))[-2:])
            self.assertEqual([0, 2, 2], ask(*before, shoot(1, player, SCORED), shoot(0, player, MISSED), won())[-3:])


def expected(beginner, ways):
    """Decided as soon as no way to take the kicks that are left could make the trailing team level."""
    hits = [0, 0]
    left = [5, 5]
    found = []
    winner = 0
    for number, scored in enumerate(ways):
        team = (beginner + number) % 2
        if winner:
            found.append(-41)
            continue
        hits[team] += scored
        left[team] -= 1
        for ahead, behind in ((0, 1), (1, 0)):
            if hits[ahead] > max(hits[behind] + more for more in range(left[behind] + 1)):
                winner = ahead + 1
        found.append(winner)
    return found


class MillionTest(unittest.TestCase):
    """A list has too few calls for 1,000,000 kicks, so the class behind the interface is asked."""

    def kicking(self, taken, beginner=0):
        game = Game(60, 0)
        for number in range(2):
            game.kick()
            game.tick(60)
            game.whistle()
        game.first(beginner)
        game.kicks.taken[beginner] = (taken + 1) // 2
        game.kicks.taken[1 - beginner] = taken // 2
        game.kicks.turn = (beginner + taken) % 2
        return game

    def test_up_to_a_million(self):
        for team in (0, 1):
            game = self.kicking(999999, team)
            self.assertEqual([0, -28], [game.shoot(1 - team, 3, 0), game.shoot(team, 3, 0)])
            self.assertEqual(([500000, 500000], team), (game.kicks.taken, game.kicks.turn))

    def test_told_last(self):
        game = self.kicking(999998)
        self.assertEqual([0, 0], [game.shoot(0, 3, 0), game.shoot(1, 3, 0)])
        told = [game.shoot(0, 0, 2), game.shoot(1, 0, 0), game.shoot(0, 11, 0), game.shoot(0, 3, 0),
                game.shoot(0, 4, 0)]
        self.assertEqual([-22, -37, -61, -17, -28], told)

    def test_begins_no_round(self):
        game = self.kicking(1000000)
        game.kicks.in_round = [list(range(11)), []]
        self.assertEqual(-28, game.shoot(0, 3, 0))
        self.assertEqual([list(range(11)), []], game.kicks.in_round)
