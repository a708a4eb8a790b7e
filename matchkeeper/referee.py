"""Reads a list of calls on one match and gives back what they answer."""

from matchkeeper.clock import lengths_allowed
from matchkeeper.game import Game
from matchkeeper.refusals import MATCH_OVER, OUT_OF_RANGE
from matchkeeper.teams import NOBODY

START = 0
KICK = 1
TICK = 2
STOP = 3
WHISTLE = 4
CARD = 5
CHANGE = 6
GOAL = 7
FIRST = 8
SCORE = 10
ON = 11
MINUTE = 12
WON = 13

# How many numbers follow each call's own.
HANDED = (2, 0, 1, 1, 0, 3, 3, 3, 1, 3, 0, 1, 0, 0)


def answers(calls):
    answered = []
    game = None
    place = 0
    while place < len(calls):
        call = calls[place]
        after = place + 1 + HANDED[call]
        handed = calls[place + 1:after]
        place = after
        if call != START:
            numbers = numbers_of(game, call, handed)
        elif lengths_allowed(handed[0], handed[1]):
            game = Game(handed[0], handed[1])
            numbers = [0]
        else:
            numbers = [OUT_OF_RANGE]
        answered.append(len(numbers))
        answered.extend(numbers)
    return answered


def numbers_of(game, call, handed):
    if call == SCORE:
        return game.score()
    if call == ON:
        return game.on(handed[0])
    if call == MINUTE:
        return game.minute()
    if call == WON:
        return [game.winner]
    # All the others may change the match, so here is the one place that keeps it as it ended.
    if game.winner != NOBODY:
        return [MATCH_OVER]
    return [answer_of(game, call, handed)]


def answer_of(game, call, handed):
    if call == KICK:
        return game.kick()
    if call == TICK:
        return game.tick(handed[0])
    if call == STOP:
        return game.stop(handed[0])
    if call == WHISTLE:
        return game.whistle()
    if call == CARD:
        return game.card(handed[0], handed[1], handed[2])
    if call == CHANGE:
        return game.change(handed[0], handed[1], handed[2])
    if call == GOAL:
        return game.goal(handed[0], handed[1], handed[2])
    if call == FIRST:
        return game.first(handed[0])
    # Only a shoot, 9, is left.
    return game.shoot(handed[0], handed[1], handed[2])
