"""The two teams, and the numbers that tell which of them has won."""

LAST_TEAM = 1
NOBODY = 0


def other(team):
    return 1 - team


def won_by(team):
    return team + 1
