"""The field: where each player is, their cards, whether play goes on, the changes and the goals."""

from matchkeeper.refusals import NO_WINDOW, NOT_NOW, NOT_ON, NOT_ON_BENCH, OUT_OF_RANGE, USED_UP, WAS_SENT_OFF
from matchkeeper.teams import LAST_TEAM, other

PLAYERS = 18
STARTERS = 11
FEWEST_ON = 7

ON = 1
BENCH = 2
OUT = 3
SENT_OFF = 4

YELLOW = 0
RED = 1

GOES_ON = 0
STANDS = 1
RESTS = 2

MOST_CHANGES = 5
MOST_WINDOWS = 3
MOST_GOALS = 1000000


def first_places():
    return [ON if player < STARTERS else BENCH for player in range(PLAYERS)]


def as_bits(players):
    bits = 0
    weight = 1
    for player in range(PLAYERS):
        if player in players:
            bits += weight
        weight = 2 * weight
    return bits


class Field:
    def __init__(self):
        self.places = [first_places(), first_places()]
        self.booked = [[False] * PLAYERS, [False] * PLAYERS]
        self.play = RESTS
        self.changes = [0, 0]
        self.windows = [0, 0]
        self.in_window = [False, False]
        self.scored = [0, 0]

    def set_play(self, play):
        # A standing that turns into a rest is still the same one: only play that goes on ends its windows.
        if play == GOES_ON:
            self.in_window = [False, False]
        self.play = play

    def is_standing(self):
        return self.play != GOES_ON

    def is_on(self, team, player):
        return self.places[team][player] == ON

    def players_on(self, team):
        return [player for player in range(PLAYERS) if self.is_on(team, player)]

    def too_few(self, team):
        return len(self.players_on(team)) < FEWEST_ON

    def on(self, team):
        if team > LAST_TEAM:
            return [OUT_OF_RANGE]
        players = self.players_on(team)
        return [len(players), as_bits(players)]

    def card(self, team, player, colour):
        if team > LAST_TEAM or player >= PLAYERS or colour > RED:
            return OUT_OF_RANGE
        if self.places[team][player] == SENT_OFF:
            return WAS_SENT_OFF
        if colour == YELLOW and not self.booked[team][player]:
            self.booked[team][player] = True
            return 0
        self.places[team][player] = SENT_OFF
        return 1

    def change(self, team, leaving, coming, barred):
        refusal = self.change_refusal(team, leaving, coming, barred)
        if refusal < 0:
            return refusal
        self.take_window(team)
        self.places[team][leaving] = OUT
        self.places[team][coming] = ON
        self.changes[team] += 1
        return MOST_CHANGES - self.changes[team]

    def change_refusal(self, team, leaving, coming, barred):
        if team > LAST_TEAM or leaving >= PLAYERS or coming >= PLAYERS:
            return OUT_OF_RANGE
        if barred or not self.is_standing():
            return NOT_NOW
        if not self.is_on(team, leaving):
            return NOT_ON
        if self.places[team][coming] != BENCH:
            return NOT_ON_BENCH
        if self.changes[team] == MOST_CHANGES:
            return USED_UP
        if self.needs_window(team) and self.windows[team] == MOST_WINDOWS:
            return NO_WINDOW
        return 0

    def needs_window(self, team):
        return self.play == STANDS and not self.in_window[team]

    def take_window(self, team):
        if self.needs_window(team):
            self.in_window[team] = True
            self.windows[team] += 1

    def goal(self, team, player, own):
        if team > LAST_TEAM or player >= PLAYERS or own > 1:
            return OUT_OF_RANGE
        if self.is_standing():
            return NOT_NOW
        if not self.is_on(team, player):
            return NOT_ON
        scorer = other(team) if own == 1 else team
        if self.scored[scorer] == MOST_GOALS:
            return USED_UP
        self.scored[scorer] += 1
        return self.scored[scorer]
