"""The clock: the periods, which of them were played, and the seconds of the one that runs."""

from matchkeeper.refusals import NO_PERIOD, NOT_NOW, OUT_OF_RANGE, TOO_EARLY, USED_UP

SHORTEST = 60
LONGEST_HALF = 3600
LONGEST_EXTRA = 1800
LONGEST_TICK = 3600
MOST_SECONDS = 1000000
HALVES = 2
HALVES_AND_EXTRA = 4


def lengths_allowed(half, extra):
    if half < SHORTEST or half > LONGEST_HALF:
        return False
    return extra == 0 or (extra >= SHORTEST and extra <= LONGEST_EXTRA)


class Clock:
    def __init__(self, half, extra):
        self.half = half
        self.extra = extra
        self.played = 0
        self.running = False
        self.gone = 0
        self.stood = 0

    def all_played(self):
        last = HALVES if self.extra == 0 else HALVES_AND_EXTRA
        return self.played == last

    def length(self):
        return self.half if self.played < HALVES else self.extra

    def kick(self):
        if self.running:
            return NOT_NOW
        if self.all_played():
            return NO_PERIOD
        self.running = True
        self.gone = 0
        self.stood = 0
        return self.played + 1

    def tick(self, seconds, standing):
        if seconds < 1 or seconds > LONGEST_TICK:
            return OUT_OF_RANGE
        if not self.running:
            return 0
        if self.gone + seconds > MOST_SECONDS:
            return USED_UP
        self.gone += seconds
        if standing:
            self.stood += seconds
        return self.gone

    def whistle(self):
        if not self.running:
            return NO_PERIOD
        if self.gone < self.length() + self.stood:
            return TOO_EARLY
        self.running = False
        self.played += 1
        return self.played
