"""Point 1: start."""

from tests.calls import (
    RED, TOP, YELLOW, CallTest, ask, at_kicks, card, change, kick, last, period, probe, start, standing, stop, tick,
    whistle,
)


class StartTest(CallTest):
    def test_half_edges(self):
        for half, answer in ((0, -22), (59, -22), (60, 0), (61, 0), (2700, 0), (3600, 0), (3601, -22), (TOP, -22)):
            with self.subTest(half=half):
                self.assertEqual(answer, last(start(half, 0)))

    def test_extra_edges(self):
        pairs = ((0, 0), (1, -22), (59, -22), (60, 0), (61, 0), (900, 0), (1800, 0), (1801, -22), (3600, -22),
                 (TOP, -22))
        for extra, answer in pairs:
            with self.subTest(extra=extra):
                self.assertEqual(answer, last(start(2700, extra)))

    def test_both_out_of_range(self):
        self.assertEqual([-22, -22], ask(start(59, 1), start(TOP, TOP)))

    def test_half_and_extra_are_not_mistaken_for_each_other(self):
        self.assertEqual([0, -22, -22], ask(start(3600, 1800), start(1800, 3600), start(0, 60)))

    def test_refused_ahead_of_one_answered(self):
        self.assertEqual([-22, -22, 0, 1], ask(start(59, 0), start(60, 59), start(60, 60), kick()))

    def test_length_is_that_of_the_start_answered_0(self):
        self.assertEqual([-22, 0, 1, 99, -35, 100, 1],
                         ask(start(0, 0), start(100, 0), kick(), tick(99), whistle(), tick(1), whistle()))

    def test_again_gives_a_match_with_nothing_played(self):
        first = [start(100, 60), change(0, 0, 11), change(1, 3, 17), kick(), card(0, 5, YELLOW), card(1, 5, RED),
                 tick(40), *standing(tick(9), change(0, 1, 12), change(1, 0, 12))]
        for before in (first, at_kicks(), [*first, tick(100), whistle()], [*first, stop(1)]):
            with self.subTest(before=before):
                again = ask(*before, start(60, 0), *probe())
                self.assertEqual(ask(start(60, 0), *probe()), again[len(before):])

    def test_again_uses_the_new_lengths(self):
        before = [start(60, 0), *period(), *period()]
        after = [start(90, 70), kick(), tick(89), whistle(), tick(1), whistle(), *period(90), kick(), tick(69),
                 whistle(), tick(1), whistle()]
        self.assertEqual([0, 1, 89, -35, 90, 1, 2, 90, 2, 3, 69, -35, 70, 3], ask(*before, *after)[len(before):])

    def test_refused_leaves_the_match_as_it_was(self):
        booked = [start(60, 60), card(0, 5, YELLOW), card(1, 2, RED)]
        running = [*booked, kick(), tick(30), *standing(change(0, 0, 11), tick(5))]
        for before in ([start(60, 60)], booked, running, [*running, stop(1)], at_kicks()):
            for refused in (start(59, 0), start(3601, 0), start(60, 59), start(60, 1801), start(TOP, TOP)):
                self.assert_refused(-22, before, refused)
