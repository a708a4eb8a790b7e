"""Kicks: whose turn it is, who has kicked in their team's round, and for whom it is decided."""

from matchkeeper.teams import NOBODY, other, won_by

KICKS_EACH = 5
MOST_KICKS = 1000000


class Kicks:
    def __init__(self, beginner):
        self.turn = beginner
        self.taken = [0, 0]
        self.hits = [0, 0]
        self.in_round = [[], []]

    def all_taken(self):
        return self.taken[0] + self.taken[1] == MOST_KICKS

    def round_is_done(self, players_on):
        # Those on are counted anew each time, because a card between kicks can end a round.
        return all([player in self.in_round[self.turn] for player in players_on])

    def must_wait(self, player, players_on):
        return player in self.in_round[self.turn] and not self.round_is_done(players_on)

    def take(self, player, scored, players_on):
        team = self.turn
        if self.round_is_done(players_on):
            self.in_round[team] = []
        self.in_round[team].append(player)
        self.taken[team] += 1
        self.hits[team] += scored
        self.turn = other(team)
        return self.decided_for()

    def decided_for(self):
        for team in (0, 1):
            rival = other(team)
            if self.hits[team] > self.hits[rival] + self.left(rival):
                return won_by(team)
        return NOBODY

    def left(self, team):
        if min(self.taken) < KICKS_EACH:
            return KICKS_EACH - self.taken[team]
        return max(self.taken[other(team)] - self.taken[team], 0)
