"""The clock: the periods, which of them were played, and the seconds of the one that runs."""

from matchkeeper.refusals import NO_PERIOD, NOT_NOW, OUT_OF_RANGE, TOO_EARLY, USED_UP

SHORTEST = 60
LONGEST_HALF = 3600
LONGEST_EXTRA = 1800
LONGEST_TICK = 3600
MOST_SECONDS = 1000000
MINUTE = 60


def lengths_allowed(half, extra):
    if half < SHORTEST or half > LONGEST_HALF:
        return False
    return extra == 0 or (extra >= SHORTEST and extra <= LONGEST_EXTRA)


def minutes_rounded_up(seconds):
    return (seconds + MINUTE - 1) // MINUTE


class Clock:
    def __init__(self, half, extra):
        self.lengths = [half, half] if extra == 0 else [half, half, extra, extra]
        self.played = 0
        self.running = False
        self.gone = 0
        self.stood = 0

    def all_played(self):
        return self.played == len(self.lengths)

    def length(self):
        return self.lengths[self.played]

    def kick(self):
        if self.running:
            return NOT_NOW
        if self.all_played():
            return NO_PERIOD
        self.running = True
        self.gone = 0
        self.stood = 0
        return self.played + 1

    def tick(self, seconds, standing):
        if seconds < 1 or seconds > LONGEST_TICK:
            return OUT_OF_RANGE
        if not self.running:
            return 0
        if self.gone + seconds > MOST_SECONDS:
            return USED_UP
        self.gone += seconds
        if standing:
            self.stood += seconds
        return self.gone

    def whistle(self):
        if not self.running:
            return NO_PERIOD
        if self.gone < self.length() + self.stood:
            return TOO_EARLY
        self.running = False
        self.played += 1
        return self.played

    def minute(self):
        if not self.running:
            return [NO_PERIOD]
        earlier = sum(self.lengths[:self.played])
        beyond = self.gone - self.length()
        if beyond < 0:
            return [0, (earlier + self.gone) // MINUTE + 1, 0]
        return [0, minutes_rounded_up(earlier + self.length()), beyond // MINUTE + 1]
