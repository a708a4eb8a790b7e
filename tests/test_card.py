"""Point 6: card."""

from tests.calls import (
    RED, TOP, YELLOW, CallTest, ask, at_kicks, card, change, kick, last, period, start, stop,
)


class CardTest(CallTest):
    def test_just_above_what_is_allowed(self):
        for colour in (YELLOW, RED):
            for refused in (card(2, 0, colour), card(TOP, 0, colour), card(0, 18, colour), card(1, 18, colour),
                            card(0, TOP, colour)):
                self.assert_refused(-22, [start(60, 0), kick()], refused)
        for refused in (card(0, 0, 2), card(1, 17, 2), card(0, 0, TOP), card(2, 18, 2), card(TOP, TOP, TOP)):
            self.assert_refused(-22, [start(60, 0), kick()], refused)

    def test_every_player_may_be_shown_a_yellow(self):
        every = [card(team, player, YELLOW) for team in (0, 1) for player in range(18)]
        self.assertEqual([0] * 36, ask(start(60, 0), *every)[1:])

    def test_every_player_may_be_sent_off(self):
        for team in (0, 1):
            for player in range(18):
                self.assertEqual(1, last(start(60, 0), card(team, player, RED)))

    def test_yellow_and_second_yellow(self):
        for player in (0, 10, 11, 17):
            shown = [card(0, player, YELLOW)] * 3
            self.assertEqual([0, 1, -4], ask(start(60, 0), *shown)[1:])

    def test_red(self):
        for player in (0, 10, 11, 17):
            self.assertEqual([1, -4, -4],
                             ask(start(60, 0), card(1, player, RED), card(1, player, RED), card(1, player, YELLOW))[1:])

    def test_red_behind_a_yellow(self):
        calls = [card(0, 4, YELLOW), card(0, 4, RED), card(0, 4, YELLOW), card(0, 4, RED)]
        self.assertEqual([0, 1, -4, -4], ask(start(60, 0), *calls)[1:])

    def test_cards_are_each_player_s_own(self):
        calls = [card(0, 4, YELLOW), card(1, 4, YELLOW), card(0, 5, YELLOW), card(0, 4, YELLOW), card(1, 4, RED)]
        self.assertEqual([0, 0, 0, 1, 1], ask(start(60, 0), *calls)[1:])

    def test_one_who_is_out(self):
        before = [start(60, 0), change(0, 3, 11)]
        self.assertEqual([0, 1, -4], ask(*before, *[card(0, 3, YELLOW)] * 3)[2:])
        self.assertEqual([1, -4], ask(*before, *[card(0, 3, RED)] * 2)[2:])

    def test_a_yellow_goes_along_with_a_change(self):
        before = [start(60, 0), card(0, 3, YELLOW), card(0, 11, YELLOW), change(0, 3, 11)]
        self.assertEqual([1, 1], ask(*before, card(0, 3, YELLOW), card(0, 11, YELLOW))[-2:])

    def test_whoever_is_sent_off_is_neither_on_nor_on_the_bench(self):
        self.assertEqual(-61, last(start(60, 0), card(0, 3, RED), change(0, 3, 11)))
        self.assertEqual(-62, last(start(60, 0), card(0, 11, RED), change(0, 3, 11)))
        self.assertEqual(-61, last(start(60, 0), *[card(0, 3, YELLOW)] * 2, change(0, 3, 11)))
        self.assertEqual(-62, last(start(60, 0), *[card(0, 11, YELLOW)] * 2, change(0, 3, 11)))

    def test_one_yellow_leaves_a_player_where_they_are(self):
        self.assertEqual(4, last(start(60, 0), card(0, 3, YELLOW), card(0, 11, YELLOW), change(0, 3, 11)))

    def test_whenever_it_is_shown(self):
        whens = ([start(60, 0)], [start(60, 0), kick()], [start(60, 0), kick(), stop(1)], [start(60, 0), *period()],
                 at_kicks())
        for before in whens:
            with self.subTest(before=before):
                self.assertEqual([0, 1, -4, 1], ask(*before, *[card(0, 0, YELLOW)] * 3, card(1, 0, RED))[-4:])

    def test_sent_off_before(self):
        for before in ([start(60, 0), card(0, 3, RED)], [start(60, 0), *[card(0, 3, YELLOW)] * 2],
                       [start(60, 0), change(0, 3, 11), card(0, 3, RED), kick()]):
            for colour in (YELLOW, RED):
                self.assert_refused(-4, before, card(0, 3, colour))

    def test_out_of_range_is_told_ahead_of_sent_off(self):
        before = [start(60, 0), card(0, 3, RED)]
        for colour in (2, TOP):
            self.assert_refused(-22, before, card(0, 3, colour))

    def test_a_card_does_not_stop_play(self):
        self.assertEqual([-16, -16], ask(start(60, 0), kick(), card(0, 3, RED), stop(0), change(0, 4, 11))[-2:])
