"""Point 4: tick and stop."""

from tests.calls import (
    TOP, CallTest, ask, at_kicks, change, kick, last, period, start, standing, stop, tick, to_million, whistle,
)


class TickTest(CallTest):
    def test_edges(self):
        for seconds, answer in ((0, -22), (1, 1), (2, 2), (3599, 3599), (3600, 3600), (3601, -22), (TOP, -22)):
            with self.subTest(seconds=seconds):
                self.assertEqual(answer, last(start(60, 0), kick(), tick(seconds)))

    def test_out_of_range_leaves_all_as_it_was(self):
        for seconds in (0, 3601, TOP):
            self.assert_refused(-22, [start(60, 0), kick(), tick(50)], tick(seconds))
            self.assert_refused(-22, [start(60, 0), kick(), stop(1), tick(50)], tick(seconds))

    def test_seconds_add_up(self):
        self.assertEqual([1, 3601, 3602, 3662], ask(start(60, 0), kick(), tick(1), tick(3600), tick(1), tick(60))[2:])

    def test_none_runs(self):
        for before in ([start(60, 0)], [start(60, 0), *period()], at_kicks(), [start(60, 60)] + period() * 4):
            with self.subTest(before=before):
                self.assertEqual([0, 0, 0], ask(*before, tick(1), tick(3600), tick(1))[-3:])

    def test_none_runs_out_of_range(self):
        for before in ([start(60, 0)], [start(60, 0), *period()], at_kicks()):
            for seconds in (0, 3601, TOP):
                self.assert_refused(-22, before, tick(seconds))

    def test_none_runs_counts_for_no_period(self):
        self.assertEqual([0, 1, 59, -35], ask(start(60, 0), tick(3600), kick(), tick(59), whistle())[1:])
        self.assertEqual([0, 2, 59, -35], ask(start(60, 0), *period(), tick(60), kick(), tick(59), whistle())[4:])

    def test_up_to_a_million(self):
        before = [start(60, 0), *to_million()]
        self.assertEqual(1000000, last(*before))
        self.assert_refused(-28, before, tick(1))
        self.assert_refused(-28, before, tick(3600))

    def test_to_a_million_by_one(self):
        before = [start(60, 0), *to_million()[:-1], tick(2499)]
        self.assertEqual([999999, -28, 1000000, -28], ask(*before, tick(2), tick(1), tick(1))[-4:])
        self.assert_refused(-28, before, tick(2))
        self.assert_refused(-28, before, tick(3600))

    def test_a_million_while_play_stands(self):
        before = [start(60, 0), kick(), stop(1), *to_million()[1:]]
        self.assertEqual([1000000, -35], ask(*before, whistle())[-2:])
        self.assert_refused(-28, before, tick(1))

    def test_out_of_range_is_told_ahead_of_a_million(self):
        for seconds in (0, 3601, TOP):
            self.assert_refused(-22, [start(60, 0), *to_million()], tick(seconds))

    def test_a_million_of_each_period(self):
        before = [start(60, 0), *to_million(), whistle()]
        self.assertEqual([1, 0, 2, 3600], ask(*before, tick(3600), kick(), tick(3600))[-4:])
        self.assertEqual([1000000, -28], ask(*before, *to_million(), tick(1))[-2:])

    def test_seconds_stood_while_play_stands_alone(self):
        before = [start(60, 0), kick(), tick(10), stop(1), tick(20), tick(5), stop(0), tick(49)]
        self.assertEqual([84, -35, 85, 1], ask(*before, whistle(), tick(1), whistle())[-4:])

    def test_seconds_stood_are_not_those_ahead_of_the_stop(self):
        before = [start(60, 0), kick(), tick(59), stop(1), tick(1000)]
        self.assertEqual([1059, -35, 0, 1060, 1], ask(*before, whistle(), stop(0), tick(1), whistle())[-5:])


class StopTest(CallTest):
    def test_stands_and_goes_on_by_turns(self):
        self.assertEqual([0, 0, 0, 0], ask(start(60, 0), kick(), stop(1), stop(0), stop(1), stop(0))[2:])

    def test_above_one(self):
        running = [start(60, 0), kick(), tick(20)]
        for before in (running, [*running, stop(1)], [start(60, 0)], [start(60, 0), *period()], at_kicks()):
            for wanted in (2, 3, TOP):
                self.assert_refused(-22, before, stop(wanted))

    def test_none_runs(self):
        rests = ([start(60, 0)], [start(60, 0), *period()], at_kicks(), [start(60, 60)] + period() * 4)
        for before in rests:
            for wanted in (0, 1):
                self.assert_refused(-11, before, stop(wanted))

    def test_stands_already(self):
        self.assert_refused(-16, [start(60, 0), kick(), stop(1)], stop(1))
        self.assert_refused(-16, [start(60, 0), kick(), tick(5), stop(1), tick(5)], stop(1))

    def test_goes_on_already(self):
        self.assert_refused(-16, [start(60, 0), kick()], stop(0))
        self.assert_refused(-16, [start(60, 0), kick(), *standing()], stop(0))

    def test_a_stop_that_stands_already_is_no_new_standing(self):
        before = [start(60, 0), kick()]
        for player in range(3):
            before += [stop(1), change(0, player, 11 + player), stop(1)]
            before += [stop(0)] if player < 2 else []
        self.assertEqual(1, last(*before, change(0, 3, 14)))

    def test_changes_are_taken_while_it_stands_alone(self):
        before = [start(60, 0), kick()]
        self.assertEqual([-16, 0, 4, 0, -16],
                         ask(*before, change(0, 0, 11), stop(1), change(0, 0, 11), stop(0), change(0, 1, 12))[2:])
