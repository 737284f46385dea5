"""The bounds of a game."""

from stonebreathdesk.stones import BLACK
from stonebreathdesk.stones import WHITE

FIRST_SIZE = 19
LEAST_SIZE = 2
MOST_SIZE = 19
MOST_KOMI = 2000
MOST_TURNS = 1000


def is_player(colour):
    return colour == BLACK or colour == WHITE


def is_size(size):
    return LEAST_SIZE <= size <= MOST_SIZE


# Of begin alone: a record may tell more.
def is_komi(komi):
    return -MOST_KOMI <= komi <= MOST_KOMI


def is_no_or_yes(number):
    return number == 0 or number == 1
