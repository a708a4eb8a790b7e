"""Point 5: whistle."""

from tests.calls import (
    CallTest, RED, ask, at_kicks, card, change, kick, last, period, start, stop, tick, whistle,
)


class WhistleTest(CallTest):
    def test_none_runs(self):
        for before in ([start(60, 0)], [start(60, 0), *period()], at_kicks(), [start(60, 60)] + period() * 4):
            self.assert_refused(-11, before, whistle())
        self.assert_refused(-11, [start(60, 0), tick(3600)], whistle())

    def test_too_early_to_the_second(self):
        for half in (60, 61, 2700, 3600):
            before = [start(half, 0), kick(), tick(half - 1)]
            self.assert_refused(-35, before, whistle())
            self.assertEqual([half, 1], ask(*before, tick(1), whistle())[-2:])

    def test_at_once(self):
        self.assert_refused(-35, [start(60, 0), kick()], whistle())

    def test_later_than_its_length(self):
        self.assertEqual(1, last(start(60, 0), kick(), tick(61), whistle()))
        self.assertEqual(1, last(start(60, 0), kick(), tick(3600), whistle()))

    def test_too_early_with_time_that_play_stood(self):
        for stood in (1, 30, 3600):
            before = [start(60, 0), kick(), tick(10), stop(1), tick(stood), stop(0), tick(49)]
            self.assert_refused(-35, before, whistle())
            self.assertEqual([60 + stood, 1], ask(*before, tick(1), whistle())[-2:])

    def test_stood_in_several_standings(self):
        before = [start(60, 0), kick(), stop(1), tick(7), stop(0), tick(30), stop(1), tick(8), stop(0), tick(29)]
        self.assert_refused(-35, before, whistle())
        self.assertEqual([75, 1], ask(*before, tick(1), whistle())[-2:])

    def test_while_play_stands(self):
        self.assert_refused(-35, [start(60, 0), kick(), tick(59), stop(1), tick(100)], whistle())
        self.assertEqual(1, last(start(60, 0), kick(), tick(60), stop(1), tick(100), whistle()))

    def test_each_period_to_its_second(self):
        before = [start(100, 70)]
        for number, length in ((1, 100), (2, 100), (3, 70), (4, 70)):
            before += [kick(), tick(length - 1)]
            self.assert_refused(-35, before, whistle())
            before += [tick(1), whistle()]
            self.assertEqual([number, length - 1, length, number], ask(*before)[-4:])

    def test_extra_longer_than_half(self):
        before = [start(60, 90), *period(), *period(), kick(), tick(89)]
        self.assert_refused(-35, before, whistle())
        self.assertEqual(3, last(*before, tick(1), whistle()))

    def test_play_stands_then_in_a_rest(self):
        for played in (1, 2, 3):
            before = [start(60, 60)] + period() * played
            self.assertEqual([4, 3], ask(*before, change(0, 0, 11), change(0, 1, 12))[-2:])
            self.assertEqual([-11, 0], ask(*before, stop(1), tick(5))[-2:])

    def test_level_behind_period_1(self):
        for extra in (0, 60):
            self.assertEqual([4, 2], ask(start(60, extra), *period(), change(1, 0, 11), kick())[-2:])

    def test_level_behind_period_2_without_extra_time(self):
        before = [start(60, 0), *period(), *period()]
        self.assertEqual([2, -11, -16], ask(*before, kick(), change(0, 0, 11))[-3:])

    def test_level_behind_period_2_with_extra_time(self):
        before = [start(60, 60), *period(), *period()]
        self.assertEqual([2, 4, 3], ask(*before, change(0, 0, 11), kick())[-3:])

    def test_level_behind_period_3(self):
        before = [start(60, 60), *period(), *period(), *period()]
        self.assertEqual([3, 4, 4], ask(*before, change(0, 0, 11), kick())[-3:])

    def test_level_behind_period_4(self):
        before = [start(60, 60)] + period() * 4
        self.assertEqual([4, -11, -16], ask(*before, kick(), change(0, 0, 11))[-3:])

    def test_fewer_players_are_still_level(self):
        before = [start(60, 0), card(0, 0, RED), *period(), *period()]
        self.assertEqual([2, -11, -16], ask(*before, kick(), change(0, 1, 11))[-3:])
