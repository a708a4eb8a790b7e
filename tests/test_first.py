"""Point 9: first."""

from tests.calls import (
    MISSED, RED, SCORED, TOP, CallTest, ask, at_kicks, card, first, goal, kick, kicking, last, period, shoot, start,
    stop, tick, won,
)

NOT_AT_KICKS = (
    [start(60, 0)], [start(60, 0), kick()], [start(60, 0), kick(), stop(1)], [start(60, 0), *period()],
    [start(60, 0), *period(), kick(), tick(60)], [start(60, 60), *period(), *period()],
    [start(60, 60), *period() * 3], [start(60, 60), *period() * 3, kick(), tick(60)],
)


class FirstTest(CallTest):
    def test_team_above_1(self):
        befores = (at_kicks(), kicking(0), kicking(1), [*kicking(0), shoot(0, 0, SCORED)], *NOT_AT_KICKS)
        self.assert_all_refused(-22, befores, (first(2), first(3), first(TOP)))

    def test_before_it_came_to_kicks(self):
        self.assert_all_refused(-11, NOT_AT_KICKS, (first(0), first(1)))

    def test_kicks_begin(self):
        for before in (at_kicks(), [start(60, 60), *period() * 4],
                       [start(60, 0), *period(60, goal(0, 1), goal(1, 1)), *period()]):
            for team in (0, 1):
                self.assertEqual([0, 0], ask(*before, first(team), won())[-2:])

    def test_this_team_is_first(self):
        for team in (0, 1):
            self.assertEqual([-37, 0, -37, 0], ask(
                *kicking(team), shoot(1 - team, 0, MISSED), shoot(team, 0, MISSED), shoot(team, 1, MISSED),
                shoot(1 - team, 0, MISSED))[-4:])

    def test_twice(self):
        self.assert_all_refused(-16, (kicking(0), kicking(1)), (first(0), first(1)))

    def test_behind_the_first_kick(self):
        befores = ([*kicking(0), shoot(0, 0, SCORED)], [*kicking(1), shoot(1, 0, MISSED)],
                   [*kicking(0), shoot(0, 0, SCORED), shoot(1, 0, SCORED)])
        self.assert_all_refused(-16, befores, (first(0), first(1)))

    def test_the_second_time_does_not_change_who_is_first(self):
        self.assertEqual([-16, -37, 0], ask(*kicking(0), first(1), shoot(1, 0, SCORED), shoot(0, 0, SCORED))[-3:])

    def test_refused_ones_do_not_begin_them(self):
        self.assertEqual([-22, -11, 0], ask(*at_kicks(), first(2), shoot(0, 0, SCORED), first(1))[-3:])
        self.assertEqual(0, last(start(60, 0), first(0), *period(), first(1), *period(), first(1)))

    def test_a_new_match_has_its_own_kicks(self):
        self.assertEqual([-11, -11], ask(*kicking(0), start(60, 0), first(0), shoot(0, 0, SCORED))[-2:])
        self.assertEqual([0, 0, -37], ask(*kicking(0), *at_kicks(), first(1), shoot(1, 0, SCORED),
                                          shoot(1, 1, SCORED))[-3:])

    def test_a_card_ahead_of_it(self):
        self.assertEqual([1, 0], ask(*at_kicks(), card(0, 0, RED), first(0))[-2:])
