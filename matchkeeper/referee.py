"""Reads a list of calls on one match and gives back what they answer."""

from matchkeeper.clock import lengths_allowed
from matchkeeper.game import Game
from matchkeeper.refusals import OUT_OF_RANGE

START = 0
KICK = 1
TICK = 2
STOP = 3
WHISTLE = 4
CARD = 5

# How many numbers follow each call's own.
HANDED = (2, 0, 1, 1, 0, 3, 3)


def answers(calls):
    answered = []
    game = None
    place = 0
    while place < len(calls):
        call = calls[place]
        after = place + 1 + HANDED[call]
        handed = calls[place + 1:after]
        place = after
        if call != START:
            numbers = [answer_of(game, call, handed)]
        elif lengths_allowed(handed[0], handed[1]):
            game = Game(handed[0], handed[1])
            numbers = [0]
        else:
            numbers = [OUT_OF_RANGE]
        answered.append(len(numbers))
        answered.extend(numbers)
    return answered


def answer_of(game, call, handed):
    if call == KICK:
        return game.kick()
    if call == TICK:
        return game.tick(handed[0])
    if call == STOP:
        return game.stop(handed[0])
    if call == WHISTLE:
        return game.whistle()
    if call == CARD:
        return game.card(handed[0], handed[1], handed[2])
    # Only a change, 6, is left.
    return game.change(handed[0], handed[1], handed[2])
