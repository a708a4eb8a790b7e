"""Point 7: change."""

from tests.calls import (
    RED, TOP, CallTest, ask, at_kicks, card, change, kick, last, period, start, standing, stop, tick, whistle,
)

IN_REST = [start(60, 0)]
STANDING = [start(60, 0), kick(), stop(1)]
GOING_ON = [start(60, 0), kick()]


def nth(number, team=0):
    """The change of the team that takes player `number` out, for the next one of the bench."""
    return change(team, number, 11 + number)


def windows(count, team=0, begin=0):
    """So many standings of a period that runs, one change in each."""
    return [call for number in range(begin, begin + count) for call in standing(nth(number, team))]


class RefusalTest(CallTest):
    def test_just_above_what_is_allowed(self):
        beyond = (change(2, 0, 11), change(0, 18, 11), change(0, 0, 18), change(1, 18, 11), change(1, 0, 18),
                  change(TOP, 0, 11), change(0, TOP, 11), change(0, 0, TOP), change(TOP, TOP, TOP))
        for before in (IN_REST, STANDING, GOING_ON, at_kicks()):
            for refused in beyond:
                self.assert_refused(-22, before, refused)

    def test_while_play_goes_on(self):
        self.assert_refused(-16, GOING_ON, change(0, 0, 11))
        self.assert_refused(-16, [*GOING_ON, *standing(nth(0)), tick(3)], nth(1))

    def test_out_is_not_on(self):
        self.assert_refused(-61, IN_REST, change(0, 11, 12))
        self.assert_refused(-61, STANDING, change(0, 17, 12))
        self.assert_refused(-61, [*STANDING, nth(0)], change(0, 0, 12))
        self.assert_refused(-61, [*STANDING, card(1, 5, RED)], change(1, 5, 12))

    def test_in_is_not_on_the_bench(self):
        self.assert_refused(-62, IN_REST, change(0, 0, 10))
        self.assert_refused(-62, STANDING, change(0, 3, 3))
        self.assert_refused(-62, [*STANDING, nth(0)], change(0, 1, 11))
        self.assert_refused(-62, [*STANDING, nth(0)], change(0, 1, 0))
        self.assert_refused(-62, [*STANDING, nth(0)], change(0, 11, 0))
        self.assert_refused(-62, [*STANDING, card(0, 12, RED)], change(0, 1, 12))
        self.assert_refused(-62, [*STANDING, card(0, 2, RED)], change(0, 1, 2))

    def test_when_it_came_to_kicks(self):
        for before in (at_kicks(), [start(60, 60)] + period() * 4, [start(60, 0), nth(0), *period(), *period()]):
            self.assert_refused(-16, before, change(0, 3, 14))
            self.assert_refused(-16, before, change(1, 3, 14))

    def test_order_behind_play_goes_on_and_kicks(self):
        for before in (GOING_ON, at_kicks()):
            for refused in (change(0, 11, 12), change(0, 0, 10), change(0, 11, 0)):
                self.assert_refused(-16, before, refused)
        five = [start(60, 0), *[nth(number) for number in range(5)]]
        self.assert_refused(-16, [*five, kick()], nth(5))
        self.assert_refused(-16, [*five, *period(), *period()], nth(5))
        self.assert_refused(-16, [*GOING_ON, *windows(3)], nth(3))

    def test_order_of_out_and_in(self):
        self.assert_refused(-61, IN_REST, change(0, 11, 0))
        self.assert_refused(-61, STANDING, change(0, 11, 11))

    def test_order_behind_five_changes_and_three_windows(self):
        five = [start(60, 0), *[nth(number) for number in range(5)]]
        self.assert_refused(-61, five, change(0, 0, 16))
        self.assert_refused(-62, five, change(0, 5, 6))
        three = [*GOING_ON, *windows(3), stop(1)]
        self.assert_refused(-61, three, change(0, 0, 16))
        self.assert_refused(-62, three, change(0, 5, 6))

    def test_five_changes_are_told_ahead_of_three_windows(self):
        before = [start(60, 0), nth(0), nth(1), kick(), *windows(3, begin=2), stop(1)]
        self.assert_refused(-28, before, nth(5))


class CountTest(CallTest):
    def test_out_is_out_and_in_is_on(self):
        before = [*IN_REST, change(0, 0, 11)]
        self.assertEqual([4, 3], ask(*before, change(0, 11, 12))[-2:])
        self.assertEqual(-61, last(*before, change(0, 0, 12)))
        self.assertEqual(-62, last(*before, change(0, 1, 0)))
        self.assertEqual(-62, last(*before, change(0, 1, 11)))

    def test_edges_of_who_is_on_and_who_on_the_bench(self):
        self.assertEqual([4, 3], ask(*IN_REST, change(1, 10, 11), change(1, 0, 17))[-2:])

    def test_five_changes(self):
        for before in (IN_REST, STANDING):
            for team in (0, 1):
                five = [*before, *[nth(number, team) for number in range(5)]]
                self.assertEqual([4, 3, 2, 1, 0], ask(*five)[-5:])
                self.assert_refused(-28, five, nth(5, team))

    def test_five_changes_of_each_team(self):
        five = [*STANDING, *[nth(number) for number in range(5)]]
        self.assertEqual([0, 4, -28], ask(*five, nth(0, 1), nth(5))[-3:])

    def test_five_changes_in_the_whole_match(self):
        before = [start(60, 60), nth(0), *period(), nth(1), *period(), nth(2), *period(), nth(3), nth(4)]
        self.assertEqual([1, 0], ask(*before)[-2:])
        self.assert_refused(-28, before, nth(5))

    def test_three_windows(self):
        for team in (0, 1):
            before = [*GOING_ON, *windows(3, team), stop(1)]
            self.assertEqual([4, 3, 2], [ask(*before)[place] for place in (3, 6, 9)])
            self.assert_refused(-29, before, nth(3, team))

    def test_three_windows_of_each_team(self):
        before = [*GOING_ON, *windows(3), stop(1)]
        self.assertEqual([4, -29], ask(*before, nth(0, 1), nth(3))[-2:])

    def test_a_standing_with_changes_of_both_teams(self):
        before = list(GOING_ON)
        for number in range(3):
            before += standing(nth(number), nth(number, 1))
        self.assertEqual([-29, -29], ask(*before, stop(1), nth(3), nth(3, 1))[-2:])

    def test_three_windows_in_the_whole_match(self):
        before = [start(60, 0), kick(), *windows(2), tick(60), whistle(), kick(), *windows(1, begin=2), stop(1)]
        self.assert_refused(-29, before, nth(3))

    def test_a_standing_without_a_change_is_no_window(self):
        before = [*GOING_ON, *standing(), *standing(nth(0, 1)), *standing(), *standing()]
        self.assertEqual(4, last(*before, stop(1), nth(0)))

    def test_a_refused_change_takes_no_window(self):
        before = list(GOING_ON)
        for refused in (change(0, 11, 12), change(0, 0, 1), change(0, 0, 18)) * 2:
            before += standing(refused)
        self.assertEqual([4, 0, 0, 3, 0, 0, 2], ask(*before, *windows(3))[len(before) + 1:-1])

    def test_several_changes_in_one_standing(self):
        before = [*GOING_ON, *standing(nth(0), nth(1)), *windows(2, begin=2), stop(1)]
        self.assert_refused(-29, before, nth(4))

    def test_several_changes_in_the_third_window(self):
        before = [*GOING_ON, *windows(2), stop(1), nth(2)]
        self.assertEqual([2, 1, 0, -28], ask(*before, nth(3), nth(4), nth(5))[-4:])

    def test_changes_in_a_rest_are_no_windows(self):
        before = [start(60, 0), nth(0), kick(), *windows(3, begin=1), stop(1)]
        self.assert_refused(-29, before, nth(4))
        before = [start(60, 0), *period(), nth(0), kick(), *windows(3, begin=1)]
        self.assertEqual([1, 0], ask(*before)[-2:])

    def test_a_change_in_a_rest_behind_three_windows(self):
        before = [*GOING_ON, *windows(3), tick(60), whistle()]
        self.assertEqual([1, 0, -28], ask(*before, nth(3), nth(4), nth(5))[-3:])

    def test_refused_for_its_windows_then_taken_in_a_rest(self):
        before = [*GOING_ON, *windows(3), tick(60), stop(1)]
        self.assertEqual([-29, 1, 1, 2, 0, -29],
                         ask(*before, nth(3), whistle(), nth(3), kick(), stop(1), nth(4))[-6:])

    def test_a_standing_with_a_change_that_turns_into_a_rest(self):
        before = [*GOING_ON, tick(60), stop(1), nth(0), whistle(), nth(1), kick(), *windows(2, begin=2)]
        self.assertEqual([2, 0, 0, 1, 0], ask(*before)[-5:])
        self.assert_refused(-29, [*before, stop(1)], nth(4))

    def test_a_standing_without_a_change_that_turns_into_a_rest(self):
        before = [*GOING_ON, tick(60), stop(1), whistle(), nth(0), kick(), *windows(3, begin=1)]
        self.assertEqual([1, 0], ask(*before)[-2:])
        self.assert_refused(-29, [*before, stop(1)], nth(4))

    def test_a_window_ends_as_the_next_period_begins(self):
        before = [*GOING_ON, *windows(2), tick(60), stop(1), nth(2), whistle(), kick(), stop(1)]
        self.assert_refused(-29, before, nth(3))

    def test_each_of_many_standings_is_its_own(self):
        before = [*GOING_ON, *windows(1), *standing(), *windows(1, begin=1), *standing(), *windows(1, begin=2)]
        self.assertEqual([-29, 0, 0, -29], ask(*before, stop(1), nth(3), stop(0), stop(1), nth(3))[-4:])
