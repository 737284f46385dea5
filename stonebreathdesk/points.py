"""The count: what each colour owns, and its points by area or by land."""

from stonebreathdesk.stones import BLACK
from stonebreathdesk.stones import EMPTY
from stonebreathdesk.stones import WHITE
from stonebreathdesk.stones import other_colour
from stonebreathdesk.stones import parts_of


def board_without(board, dead):
    return [EMPTY if place in dead else there for place, there in enumerate(board)]


# EMPTY if nobody owns it.
def owner_of(board, sides, part):
    found = {}
    for place in part:
        for side in sides[place]:
            if board[side] != EMPTY:
                found[board[side]] = True
    owners = list(found)
    return owners[0] if len(owners) == 1 else EMPTY


# How many empty places each owns, by EMPTY, BLACK and WHITE.
def owned_places(board, sides):
    owned = {EMPTY: 0, BLACK: 0, WHITE: 0}
    for part in parts_of(board, sides, EMPTY):
        owned[owner_of(board, sides, part)] += len(part)
    return owned


def area_of(board, owned, colour):
    return owned[colour] + board.count(colour)


def land_of(game, owned, colour):
    other = other_colour(colour)
    board = game.board_now()
    dead = [place for place in game.dead if board[place] == other]
    return owned[colour] + game.lost_by(other) + len(dead)


# Black's points, white's, the places nobody owns, and how far black is ahead in half points.
def score_of(game, by_land):
    board = board_without(game.board_now(), game.dead)
    owned = owned_places(board, game.sides)
    if by_land:
        black = land_of(game, owned, BLACK)
        white = land_of(game, owned, WHITE)
    else:
        black = area_of(board, owned, BLACK)
        white = area_of(board, owned, WHITE)
    return [black, white, owned[EMPTY], 2 * (black - white) - game.komi]
