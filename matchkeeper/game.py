"""The match itself, called a game in the code because `match` is a word of Python's own."""

from matchkeeper.clock import Clock
from matchkeeper.field import GOES_ON, PLAYERS, RESTS, STANDS, Field
from matchkeeper.kicks import Kicks
from matchkeeper.refusals import HAS_KICKED, NO_KICKS, NO_PERIOD, NOT_NOW, NOT_ON, NOT_THEIR_TURN, OUT_OF_RANGE, USED_UP
from matchkeeper.teams import LAST_TEAM, NOBODY, other, won_by


class Game:
    def __init__(self, half, extra):
        self.clock = Clock(half, extra)
        self.field = Field()
        self.at_kicks = False
        self.kicks = None
        self.winner = NOBODY

    def kick(self):
        if self.at_kicks:
            return NO_PERIOD
        answer = self.clock.kick()
        if answer > 0:
            self.field.set_play(GOES_ON)
        return answer

    def tick(self, seconds):
        return self.clock.tick(seconds, self.field.is_standing())

    def stop(self, stop):
        if stop > 1:
            return OUT_OF_RANGE
        if not self.clock.running:
            return NO_PERIOD
        if self.field.is_standing() == (stop == 1):
            return NOT_NOW
        self.field.set_play(STANDS if stop == 1 else GOES_ON)
        return 0

    def whistle(self):
        answer = self.clock.whistle()
        if answer > 0:
            self.field.set_play(RESTS)
            self.settle()
        return answer

    def settle(self):
        # A half or an extra period decides nothing before the other one of its pair was played too.
        if self.clock.played % 2 == 1:
            return
        scored = self.field.scored
        if scored[0] != scored[1]:
            self.winner = won_by(0 if scored[0] > scored[1] else 1)
        elif self.clock.all_played():
            self.at_kicks = True

    def card(self, team, player, colour):
        answer = self.field.card(team, player, colour)
        if answer == 1 and self.field.too_few(team):
            self.winner = won_by(other(team))
        return answer

    def change(self, team, leaving, coming):
        return self.field.change(team, leaving, coming, self.at_kicks)

    def goal(self, team, player, own):
        return self.field.goal(team, player, own)

    def first(self, team):
        if team > LAST_TEAM:
            return OUT_OF_RANGE
        if not self.at_kicks:
            return NO_KICKS
        if self.kicks is not None:
            return NOT_NOW
        self.kicks = Kicks(team)
        return 0

    def shoot(self, team, player, scored):
        refusal = self.shoot_refusal(team, player, scored)
        if refusal < 0:
            return refusal
        self.winner = self.kicks.take(player, scored, self.field.players_on(team))
        return self.winner

    def shoot_refusal(self, team, player, scored):
        if team > LAST_TEAM or player >= PLAYERS or scored > 1:
            return OUT_OF_RANGE
        if self.kicks is None:
            return NO_KICKS
        if self.kicks.turn != team:
            return NOT_THEIR_TURN
        if not self.field.is_on(team, player):
            return NOT_ON
        if self.kicks.must_wait(player, self.field.players_on(team)):
            return HAS_KICKED
        if self.kicks.all_taken():
            return USED_UP
        return 0

    def score(self):
        return [self.clock.played, self.field.scored[0], self.field.scored[1]]

    def on(self, team):
        return self.field.on(team)

    def minute(self):
        return self.clock.minute()
