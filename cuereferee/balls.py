"""The balls and the players by their numbers, as they are told and answered."""

WHITE = 0
RED = 1
YELLOW = 2
BLACK = 7
ALL_REDS = 15

# Stands where a ball could: nothing named, nothing hit, no ball free.
NOTHING = 0

# What's on is a red (1), the lowest colour (its number), or whichever colour is named.
ANY_COLOUR = 0


def other(player):
    return 1 - player
