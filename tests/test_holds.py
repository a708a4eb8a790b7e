"""Point 13: what holds over whole matches, and the corners."""

import random
import unittest

from tests.calls import (
    MISSED, RED, SCORED, YELLOW, ask, asks, card, change, first, goal, kick, kicking, period, score, send_off, shoot,
    start, stop, tick, whistle, won,
)

CALLS_EACH = 400
ASKED = len(asks())


def any_call(source, reds):
    """One call, mostly of a kind that may be taken; with many reds a team is soon too few."""
    team = source.randrange(2)
    player = source.randrange(18 if source.random() < 0.2 else 11)
    choices = [kick(), tick(source.randrange(1, 90)), tick(60), whistle(), stop(source.randrange(2)), stop(0),
               change(team, player, source.randrange(11, 18)), goal(team, player, source.randrange(2)), first(team),
               shoot(team, player, source.randrange(2)), shoot(1 - team, player, SCORED), shoot(team, player, SCORED)]
    choices += [card(team, player, RED), card(team, player, YELLOW)] if source.random() < reds else []
    return source.choice(choices)


class Watched:
    """What a match may be, told by its answers alone."""

    def __init__(self, test):
        self.test = test
        self.running = False
        self.standing = True
        self.told = None

    def check(self, call, answer, told):
        (played, *scored), on_0, on_1, minutes, winner = told
        for count, bits in (on_0, on_1):
            self.test.assertEqual(count, bin(bits).count("1"))
        if self.told is None:
            self.test.assertEqual([(0, 0, 0), (11, 2047), (11, 2047), -11, 0], told)
        elif self.told[4] != 0:
            self.test.assertEqual((-41, self.told), (answer, told))
        else:
            self.check_step(call, answer, told)
        if winner == 0:
            self.test.assertGreaterEqual(min(on_0[0], on_1[0]), 7)
        self.told = told

    def check_step(self, call, answer, told):
        self.test.assertNotEqual(-41, answer)
        if answer < 0:
            self.test.assertEqual(self.told, told)
        if told[0][1:] != self.told[0][1:]:
            self.test.assertEqual((7, True, False), (call[0], self.running, self.standing))
            self.test.assertEqual(sum(self.told[0][1:]) + 1, sum(told[0][1:]))
        if told[4] != 0:
            self.check_won(call, told)
        self.follow(call, answer)
        if told[4] == 0:
            self.test.assertEqual(self.running, told[3] != -11)

    def check_won(self, call, told):
        (played, *scored), on_0, on_1, minutes, winner = told
        loser = 2 - winner
        if call[0] == 5:
            self.test.assertEqual(6, (on_0, on_1)[loser][0])
        elif call[0] == 4:
            self.test.assertIn(played, (2, 4))
            self.test.assertGreater(scored[1 - loser], scored[loser])
        else:
            self.test.assertEqual((9, scored[0]), (call[0], scored[1]))

    def follow(self, call, answer):
        if call[0] == 1 and answer > 0:
            self.running, self.standing = True, False
        if call[0] == 3 and answer == 0:
            self.standing = call[1] == 1
        if call[0] == 4 and answer > 0:
            self.running, self.standing = False, True


class HoldsTest(unittest.TestCase):
    def walk(self, source, extra, reds):
        calls = [start(60, extra)] + [any_call(source, reds) for number in range(CALLS_EACH)]
        given = ask(*[part for call in calls for part in (call, *asks())])
        watched = Watched(self)
        for number, call in enumerate(calls):
            told = given[number * (ASKED + 1):(number + 1) * (ASKED + 1)]
            watched.check(call, told[0], told[1:])
        return watched.told

    def test_many_matches(self):
        source = random.Random(5)
        ends = {}
        for number in range(300):
            told = self.walk(source, (0, 60)[number % 2], (0, 0.1, 0.6)[number % 3])
            few = min(told[1][0], told[2][0]) < 7
            end = (told[4], "few" if few else "more" if told[0][1] != told[0][2] else "level")
            ends[end] = ends.get(end, 0) + 1
        for winner in (1, 2):
            for way in ("few", "more", "level"):
                self.assertIn((winner, way), ends)


class CornerTest(unittest.TestCase):
    def test_too_few_in_a_rest(self):
        before = [start(60, 0), *period(60, goal(0, 9)), *send_off(0, range(5))]
        self.assertEqual([1, 2, -41, (1, 1, 0)], ask(*before, won(), kick(), score())[-4:])

    def test_a_red_card_that_ends_it_while_kicks_are_on(self):
        before = [*kicking(0), shoot(0, 0, SCORED), shoot(1, 0, MISSED), *send_off(0, range(5))]
        self.assertEqual([1, 2, -41], ask(*before, won(), shoot(0, 5, SCORED))[-3:])

    def test_level_behind_period_2_without_extra_time(self):
        before = [start(60, 0), *period(60, goal(0, 9)), *period(60, goal(1, 9))]
        self.assertEqual([2, 0, -11, 0, 0], ask(*before, won(), kick(), first(1), shoot(1, 0, SCORED))[-5:])

    def test_a_second_round_of_kicks_with_nine_left(self):
        before = kicking(0, *send_off(0, (0, 1)), *send_off(1, (0, 1)))
        round_of_nine = [shoot(team, player, SCORED) for player in range(2, 11) for team in (0, 1)]
        calls = [*round_of_nine, shoot(0, 0, SCORED), *round_of_nine, shoot(0, 5, SCORED), shoot(1, 6, SCORED),
                 shoot(0, 5, SCORED)]
        self.assertEqual([0] * 18 + [-61] + [0] * 20 + [-17], ask(*before, *calls)[len(before):])

    def test_an_own_goal_in_the_last_second(self):
        before = [start(60, 0), *period(), kick(), tick(59), whistle(), tick(1), goal(0, 2, 1)]
        self.assertEqual([-35, 60, 1, 2, 2, (2, 0, 1)], ask(*before, whistle(), won(), score())[-6:])

    def test_a_whistle_too_early(self):
        before = [start(60, 0), *period(60, goal(0, 9)), kick(), stop(1), tick(60)]
        self.assertEqual([-35, 0, 0, 60 + 60, 2, 1],
                         ask(*before, whistle(), won(), stop(0), tick(60), whistle(), won())[-6:])

    def test_first_twice(self):
        self.assertEqual([0, -16, -16, -37, 0], ask(*kicking(1), first(0), first(1), shoot(0, 0, SCORED),
                                                    shoot(1, 0, SCORED))[-5:])
