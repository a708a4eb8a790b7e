"""The match itself, called a game in the code because `match` is a word of Python's own."""

from matchkeeper.clock import Clock
from matchkeeper.field import GOES_ON, RESTS, STANDS, Field
from matchkeeper.refusals import NO_PERIOD, NOT_NOW, OUT_OF_RANGE

NOBODY = 0
TEAM_0 = 1
TEAM_1 = 2


def winner_against(team):
    return TEAM_1 if team == 0 else TEAM_0


class Game:
    def __init__(self, half, extra):
        self.clock = Clock(half, extra)
        self.field = Field()
        self.scored = [0, 0]
        self.at_kicks = False
        self.winner = NOBODY

    def kick(self):
        if self.at_kicks:
            return NO_PERIOD
        answer = self.clock.kick()
        if answer > 0:
            self.field.set_play(GOES_ON)
        return answer

    def tick(self, seconds):
        return self.clock.tick(seconds, self.field.is_standing())

    def stop(self, stop):
        if stop > 1:
            return OUT_OF_RANGE
        if not self.clock.running:
            return NO_PERIOD
        if self.field.is_standing() == (stop == 1):
            return NOT_NOW
        self.field.set_play(STANDS if stop == 1 else GOES_ON)
        return 0

    def whistle(self):
        answer = self.clock.whistle()
        if answer > 0:
            self.field.set_play(RESTS)
            self.settle()
        return answer

    def settle(self):
        # A half or an extra period decides nothing before the other one of its pair was played too.
        if self.clock.played % 2 == 1:
            return
        if self.scored[0] != self.scored[1]:
            self.winner = TEAM_0 if self.scored[0] > self.scored[1] else TEAM_1
        elif self.clock.all_played():
            self.at_kicks = True

    def card(self, team, player, colour):
        answer = self.field.card(team, player, colour)
        if answer == 1 and self.field.too_few(team):
            self.winner = winner_against(team)
        return answer

    def change(self, team, leaving, coming):
        return self.field.change(team, leaving, coming, self.at_kicks)
