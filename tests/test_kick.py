"""Point 3: kick."""

from tests.calls import CallTest, ask, at_kicks, change, kick, last, period, start, stop, tick, whistle


class KickTest(CallTest):
    def test_answers_the_number_of_the_period(self):
        self.assertEqual(1, last(start(60, 0), kick()))
        self.assertEqual(2, last(start(60, 0), *period(), kick()))
        self.assertEqual(3, last(start(60, 60), *period(), *period(), kick()))
        self.assertEqual(4, last(start(60, 60), *period(), *period(), *period(), kick()))

    def test_while_a_period_runs(self):
        for played in range(4):
            self.assert_refused(-16, [start(60, 60)] + period() * played + [kick()], kick())
        self.assert_refused(-16, [start(60, 0), *period(), kick()], kick())
        self.assert_refused(-16, [start(60, 0), kick(), tick(20), stop(1), tick(5)], kick())

    def test_while_a_period_runs_beyond_its_length(self):
        self.assert_refused(-16, [start(60, 0), kick(), tick(61)], kick())

    def test_too_early_a_whistle_leaves_it_running(self):
        self.assert_refused(-16, [start(60, 0), kick(), tick(59), whistle()], kick())

    def test_all_played_without_extra(self):
        self.assert_refused(-11, [start(60, 0), *period(), *period()], kick())

    def test_all_played_with_extra(self):
        self.assert_refused(-11, [start(60, 60)] + period() * 4, kick())

    def test_when_it_came_to_kicks(self):
        self.assert_refused(-11, at_kicks(), kick())
        self.assertEqual([-11, -11], ask(*at_kicks(), kick(), kick())[-2:])

    def test_play_goes_on_behind_it(self):
        for played in range(4):
            before = [start(60, 60)] + period() * played + [kick()]
            self.assertEqual([-16, 0], ask(*before, stop(0), stop(1))[-2:])
            self.assertEqual(-16, last(*before, change(0, 0, 11)))

    def test_play_goes_on_behind_it_though_it_stood_at_the_whistle(self):
        before = [start(60, 0), kick(), tick(60), stop(1), whistle(), kick()]
        self.assertEqual([-16, -16, 60, 2],
                         ask(*before, stop(0), change(0, 0, 11), tick(60), whistle())[-4:])

    def test_a_period_begins_with_no_seconds_gone_or_stood(self):
        before = [start(60, 0), kick(), stop(1), tick(25), stop(0), tick(60), whistle(), kick()]
        self.assertEqual([59, -35, 60, 2], ask(*before, tick(59), whistle(), tick(1), whistle())[-4:])
