"""Points 2, 5 and 6: when a match is over, and what is answered then."""

from tests.calls import (
    MISSED, RED, SCORED, TOP, YELLOW, CallTest, ask, asks, at_kicks, card, change, first, goal, kick, kicking,
    last, on, period, probe, score, send_off, shoot, shots, start, stop, tick, whistle, won,
)

ALL_ON = 2047

BY_GOALS = [start(60, 60), *period(60, goal(0, 9)), *period()]
BY_GOALS_BEHIND_EXTRA = [start(60, 60), *period() * 3, *period(60, goal(1, 4))]
BY_KICKS = [*kicking(), *shots(0, (SCORED, MISSED) * 3)]
TOO_FEW_IN_A_REST = [start(60, 0), *period(), *send_off(0, range(5))]
TOO_FEW_BEFORE_THE_FIRST_KICK = [start(60, 0), *send_off(1, range(5))]
TOO_FEW_WHILE_PLAY_GOES_ON = [start(60, 0), kick(), tick(75), *send_off(0, range(5))]
TOO_FEW_WHILE_PLAY_STANDS = [start(60, 0), kick(), stop(1), tick(75), *send_off(1, range(5))]
TOO_FEW_AT_KICKS = [*at_kicks(), *send_off(1, range(5))]
TOO_FEW_WHILE_KICKING = [*kicking(1), shoot(1, 3, SCORED), *send_off(0, range(5))]

OVER = (BY_GOALS, BY_GOALS_BEHIND_EXTRA, BY_KICKS, TOO_FEW_IN_A_REST, TOO_FEW_BEFORE_THE_FIRST_KICK,
        TOO_FEW_WHILE_PLAY_GOES_ON, TOO_FEW_WHILE_PLAY_STANDS, TOO_FEW_AT_KICKS, TOO_FEW_WHILE_KICKING)

WINNERS = (1, 2, 1, 2, 1, 2, 1, 1, 2)

TAKEN_ELSEWHERE = (
    kick(), tick(1), tick(3600), stop(0), stop(1), whistle(), card(0, 9, YELLOW), card(1, 9, RED), change(0, 9, 11),
    change(1, 9, 17), goal(0, 9), goal(1, 9, 1), first(0), first(1), shoot(0, 9, SCORED), shoot(1, 9, MISSED),
)

REFUSED_ANYWAY = (
    tick(0), tick(3601), tick(TOP), stop(2), stop(TOP), card(2, 0, RED), card(0, 18, RED), card(0, 0, 2),
    card(0, 0, RED), change(2, 0, 11), change(0, 18, 11), change(0, 0, 18), change(0, 11, 0), goal(2, 0), goal(0, 18),
    goal(0, 0, 2), goal(0, 11), first(2), first(TOP), shoot(2, 0, 0), shoot(0, 18, 0), shoot(0, 0, 2),
    shoot(TOP, TOP, TOP), shoot(0, 11, 1), shoot(1, 11, 1),
)


class OverTest(CallTest):
    def test_each_call_that_could_change_it_is_refused(self):
        self.assert_all_refused(-41, OVER, TAKEN_ELSEWHERE)

    def test_also_where_another_refusal_would_be_due(self):
        self.assert_all_refused(-41, OVER, REFUSED_ANYWAY)

    def test_score_on_minute_and_won_still_answer(self):
        for before, winner in zip(OVER, WINNERS):
            with self.subTest(before=before[-6:]):
                told = ask(*before, *asks())[len(before):]
                self.assertEqual(winner, told[-1])
                self.assertEqual([tuple, tuple, tuple], [type(answer) for answer in told[:3]])
                self.assertEqual(-22, last(*before, on(2)))

    def test_nothing_changes_any_more(self):
        for before in OVER:
            with self.subTest(before=before[-6:]):
                told = ask(*before, *asks())[len(before):]
                for call in TAKEN_ELSEWHERE + REFUSED_ANYWAY:
                    self.assertEqual([-41, *told], ask(*before, call, *asks())[len(before):])
                all_of_them = [*before, *TAKEN_ELSEWHERE, *REFUSED_ANYWAY]
                self.assertEqual(told, ask(*all_of_them, *asks())[len(all_of_them):])

    def test_a_start_begins_a_new_match(self):
        for before in OVER:
            with self.subTest(before=before[-6:]):
                again = ask(*before, start(90, 60), *probe())[len(before):]
                self.assertEqual(ask(start(90, 60), *probe()), again)
                self.assertEqual([0, (0, 0, 0), (11, ALL_ON), (11, ALL_ON), -11, 0], again[:6])

    def test_a_new_match_may_be_over_too(self):
        for before in OVER:
            for again, winner in zip(OVER, WINNERS):
                self.assertEqual([winner, -41], ask(*before, *again, won(), tick(1))[-2:])

    def test_a_start_is_refused_as_ever(self):
        refused = (start(59, 0), start(3601, 0), start(60, 59), start(60, 1801), start(TOP, TOP))
        self.assert_all_refused(-22, OVER, refused)


class TooFewTest(CallTest):
    def test_seven_are_enough_and_six_too_few(self):
        for team, winner in ((0, 2), (1, 1)):
            calls = [start(60, 0), *send_off(team, range(4)), won(), on(team), *send_off(team, [4]), won(), on(team),
                     kick()]
            self.assertEqual([0, (7, ALL_ON - 15), 1, winner, (6, ALL_ON - 31), -41], ask(*calls)[5:])

    def test_by_a_second_yellow(self):
        before = [start(60, 0), *send_off(0, range(4)), card(0, 4, YELLOW)]
        self.assertEqual([0, 0, 1, 2, -41], ask(*before, won(), card(0, 4, YELLOW), won(), kick())[5:])

    def test_those_sent_off_from_the_bench_or_when_out_do_not_count(self):
        before = [start(60, 0), change(0, 0, 11), *send_off(0, [0, 12, 13, 14, 15, 16, 17]), *send_off(0, range(1, 5))]
        self.assertEqual([0, (7, ALL_ON - 31 + 2048)], ask(*before, won(), on(0))[-2:])
        self.assertEqual([1, 2], ask(*before, card(0, 11, RED), won())[-2:])

    def test_each_team_for_itself(self):
        before = [start(60, 0), *send_off(0, range(4)), *send_off(1, range(4))]
        self.assertEqual([0, 1, 1], ask(*before, won(), card(1, 10, RED), won())[-3:])
        self.assertEqual([0, 1, 2], ask(*before, won(), card(0, 10, RED), won())[-3:])

    def test_a_change_keeps_them_as_many(self):
        before = [start(60, 0), *send_off(0, range(4)), change(0, 4, 11)]
        self.assertEqual([0, (7, ALL_ON - 31 + 2048)], ask(*before, won(), on(0))[-2:])

    def test_whenever_it_is(self):
        befores = ([start(60, 60)], [start(60, 60), kick()], [start(60, 60), kick(), stop(1)], at_kicks(), kicking(0),
                   kicking(1), *[[start(60, 60), *period() * played] for played in range(1, 5)])
        for before in befores:
            for team, winner in ((0, 2), (1, 1)):
                with self.subTest(before=before[-6:], team=team):
                    calls = [*before, *send_off(team, range(4)), won(), card(team, 4, RED), won(), kick()]
                    self.assertEqual([0, 1, winner, -41], ask(*calls)[-4:])

    def test_though_it_has_scored_more(self):
        before = [start(60, 0), *period(60, goal(0, 9), goal(0, 9)), *send_off(0, range(5))]
        self.assertEqual([2, (1, 2, 0)], ask(*before, won(), score())[-2:])

    def test_though_it_leads_at_kicks(self):
        before = [*kicking(0), *shots(0, (SCORED, MISSED, SCORED, MISSED)), *send_off(0, range(5))]
        self.assertEqual([2, -41], ask(*before, won(), shoot(0, 9, SCORED))[-2:])


class ScoredMoreTest(CallTest):
    def test_not_behind_period_1(self):
        for extra in (0, 60):
            self.assertEqual([1, 0, 2], ask(start(60, extra), *period(60, goal(0, 0)), won(), kick())[-3:])

    def test_behind_period_2(self):
        for extra in (0, 60):
            for goals, winner in (((1, 0), 1), ((0, 1), 2), ((3, 2), 1), ((2, 3), 2)):
                for number in (1, 2):
                    scored = [goal(0, 9)] * goals[0] + [goal(1, 9)] * goals[1]
                    halves = [*period(60, *scored), *period()] if number == 1 else [*period(), *period(60, *scored)]
                    with self.subTest(extra=extra, goals=goals, number=number):
                        calls = [start(60, extra), *halves, won(), kick(), score()]
                        self.assertEqual([2, winner, -41, (2, *goals)], ask(*calls)[-4:])

    def test_not_before_the_whistle(self):
        before = [start(60, 0), *period(60, goal(1, 2)), kick(), tick(600)]
        self.assertEqual([0, 2, 2], ask(*before, won(), whistle(), won())[-3:])

    def test_level_behind_period_2(self):
        level = [*period(60, goal(0, 9), goal(1, 9)), *period()]
        self.assertEqual([2, 0, -11, 0], ask(start(60, 0), *level, won(), kick(), first(0))[-4:])
        self.assertEqual([2, 0, -11, 3], ask(start(60, 60), *level, won(), first(0), kick())[-4:])

    def test_not_behind_period_3(self):
        before = [start(60, 60), *period(), *period(), *period(60, goal(1, 9))]
        self.assertEqual([3, 0, 4], ask(*before, won(), kick())[-3:])

    def test_behind_period_4(self):
        for team, winner in ((0, 1), (1, 2)):
            for number in (3, 4):
                last_two = [*period(60, goal(team, 9)), *period()]
                if number == 4:
                    last_two = [*period(), *period(60, goal(team, 9))]
                calls = [start(60, 60), *period(), *period(), *last_two, won(), first(0)]
                self.assertEqual([4, winner, -41], ask(*calls)[-3:])

    def test_level_behind_period_4(self):
        for scored in ([], [goal(0, 9), goal(1, 9)]):
            before = [start(60, 60), *period(), *period(), *period(60, *scored), *period()]
            self.assertEqual([4, 0, -11, 0], ask(*before, won(), kick(), first(0))[-4:])

    def test_an_own_goal_in_the_last_second(self):
        for team, winner in ((0, 2), (1, 1)):
            before = [start(60, 60), *period(), kick(), tick(59), whistle(), tick(1), goal(team, 3, 1)]
            self.assertEqual([-35, 60, 1, 0, 2, winner, -41],
                             ask(*before, won(), whistle(), won(), kick())[-7:])

    def test_an_own_goal_that_makes_it_level(self):
        before = [start(60, 0), *period(60, goal(0, 9)), *period(60, goal(0, 9, 1))]
        self.assertEqual([0, (2, 1, 1), 0], ask(*before, won(), score(), first(1))[-3:])
