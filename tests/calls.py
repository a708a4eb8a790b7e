"""Calls written as lists, and the numbers that they answer."""

import unittest

from matchkeeper.referee import answers

TOP = 4294967295
YELLOW = 0
RED = 1


def start(half=60, extra=0):
    return [0, half, extra]


def kick():
    return [1]


def tick(seconds):
    return [2, seconds]


def stop(wanted):
    return [3, wanted]


def whistle():
    return [4]


def card(team, player, colour):
    return [5, team, player, colour]


def change(team, leaving, coming):
    return [6, team, leaving, coming]


def flat(calls):
    return [number for call in calls for number in call]


def ask(*calls):
    """What each of the calls answers, every one a single number."""
    given = answers(flat(calls))
    if len(given) != 2 * len(calls) or any(count != 1 for count in given[::2]):
        raise AssertionError(f"not one number for each call: {given}")
    return given[1::2]


def last(*calls):
    return ask(*calls)[-1]


def period(seconds=60):
    return [kick(), tick(seconds), whistle()]


def standing(*changes):
    """A standing of a period that runs, with what is done in it."""
    return [stop(1), *changes, stop(0)]


def at_kicks():
    return [start(60, 0), *period(), *period()]


def to_million():
    """A period that runs and of which 1,000,000 seconds have gone."""
    return [kick()] + [tick(2500)] * 400


def probe():
    """Calls whose answers tell one state of a match from another."""
    calls = [tick(7), stop(0), tick(11), stop(1), tick(13)]
    calls += [change(team, out, 17 - out) for team in (0, 1) for out in range(6)]
    calls += [whistle(), kick(), stop(1), change(0, 6, 11), change(1, 6, 11), stop(0)]
    for seconds in (1, 20, 40, 3600):
        calls += [tick(seconds), whistle()]
    calls += [kick(), tick(60), whistle(), change(0, 7, 11), change(1, 7, 11), kick()]
    calls += [card(team, player, YELLOW) for team in (0, 1) for player in range(18)]
    return calls


class CallTest(unittest.TestCase):
    def assert_refused(self, refusal, before, refused):
        """Refused with that number, and the match is then as if the call had not been made."""
        with self.subTest(refused=refused, before=before[-6:]):
            self.assertEqual(refusal, last(*before, refused))
            with_it = ask(*before, refused, *probe())
            without = ask(*before, *probe())
            self.assertEqual(without, with_it[:len(before)] + with_it[len(before) + 1:])
