"""Calls written as lists, and the numbers that they answer."""

import unittest

from matchkeeper.referee import answers

TOP = 4294967295
YELLOW = 0
RED = 1
SCORED = 1
MISSED = 0


def start(half=60, extra=0):
    return [0, half, extra]


def kick():
    return [1]


def tick(seconds):
    return [2, seconds]


def stop(wanted):
    return [3, wanted]


def whistle():
    return [4]


def card(team, player, colour):
    return [5, team, player, colour]


def change(team, leaving, coming):
    return [6, team, leaving, coming]


def goal(team, player, own=0):
    return [7, team, player, own]


def first(team):
    return [8, team]


def shoot(team, player, scored):
    return [9, team, player, scored]


def score():
    return [10]


def on(team):
    return [11, team]


def minute():
    return [12]


def won():
    return [13]


def flat(calls):
    return [number for call in calls for number in call]


def split(given):
    """The answers one by one: a number by itself, several as a tuple."""
    found = []
    place = 0
    while place < len(given):
        numbers = given[place + 1:place + 1 + given[place]]
        if given[place] < 1 or len(numbers) != given[place]:
            raise AssertionError(f"not a count and so many numbers: {given[place:]}")
        found.append(numbers[0] if len(numbers) == 1 else tuple(numbers))
        place += 1 + len(numbers)
    return found


def ask(*calls):
    """What each of the calls answers."""
    found = split(answers(flat(calls)))
    if len(found) != len(calls):
        raise AssertionError(f"{len(found)} answers to {len(calls)} calls")
    return found


def last(*calls):
    return ask(*calls)[-1]


def period(seconds=60, *within):
    """A period, whole, with what is done in its last second."""
    return [kick(), tick(seconds), *within, whistle()]


def standing(*changes):
    """A standing of a period that runs, with what is done in it."""
    return [stop(1), *changes, stop(0)]


def at_kicks():
    return [start(60, 0), *period(), *period()]


def kicking(beginner=0, *before):
    """Kicks have begun, behind what was done ahead of the first period."""
    return [start(60, 0), *before, *period(), *period(), first(beginner)]


def shots(beginner, results, players=11):
    """Shoots in turn, one for each result; players 0, 1, 2 .. of each team, round by round."""
    found = []
    for number, scored in enumerate(results):
        found.append(shoot((beginner + number) % 2, number // 2 % players, scored))
    return found


def send_off(team, players):
    return [card(team, player, RED) for player in players]


def to_million():
    """A period that runs and of which 1,000,000 seconds have gone."""
    return [kick()] + [tick(2500)] * 400


def asks():
    return [score(), on(0), on(1), minute(), won()]


def field_probe():
    """Calls whose answers tell one state of the field and the clock from another."""
    calls = [tick(7), stop(0), tick(11), stop(1), tick(13)]
    calls += [change(team, out, 17 - out) for team in (0, 1) for out in range(6)]
    calls += [whistle(), kick(), stop(1), change(0, 6, 11), change(1, 6, 11), stop(0), goal(0, 10), goal(1, 10)]
    for seconds in (1, 20, 40, 3600):
        calls += [tick(seconds), *asks(), whistle()]
    calls += [kick(), tick(60), whistle(), change(0, 7, 11), change(1, 7, 11), kick(), *asks()]
    calls += [card(team, player, YELLOW) for team in (0, 1) for player in range(18)]
    return calls


def kicks_probe():
    """Calls whose answers tell one state of kicks from another."""
    calls = []
    for player in range(18):
        calls += [shoot(0, player, SCORED), shoot(1, player, SCORED), shoot(0, player, SCORED)]
    calls += [first(1)]
    for number in range(6):
        calls += [shoot(1, number, SCORED), shoot(0, number, MISSED), won()]
    return calls


def probe():
    return [*asks(), *kicks_probe(), *field_probe(), *asks()]


def probes():
    """Two orders, because each of the probes uses up some of what the other one tells."""
    return (probe(), [*asks(), *field_probe(), *kicks_probe(), *asks()])


class CallTest(unittest.TestCase):
    def assert_unchanged(self, before, call):
        """The match is behind the call as if it had not been made."""
        for behind in probes():
            with_it = ask(*before, call, *behind)
            without = ask(*before, *behind)
            self.assertEqual(without, with_it[:len(before)] + with_it[len(before) + 1:])

    def assert_refused(self, refusal, before, refused):
        """Refused with that number alone, and the match is as it was."""
        with self.subTest(refused=refused, before=before[-6:]):
            self.assertEqual(refusal, last(*before, refused))
            self.assert_unchanged(before, refused)

    def assert_all_refused(self, refusal, befores, refused):
        for before in befores:
            for call in refused:
                self.assert_refused(refusal, before, call)
