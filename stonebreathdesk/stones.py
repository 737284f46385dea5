"""Places beside one another, strings and their breaths, and what a stone that is put takes.

A board is a row of colours, one for each place; sides tells for each place those beside it.
"""

EMPTY = 0
BLACK = 1
WHITE = 2


# The counts are apart, since stones that take themselves may be refused, and are the other's points.
class Outcome:
    def __init__(self, board, others_taken, own_taken):
        self.board = board
        self.others_taken = others_taken
        self.own_taken = own_taken


def other_colour(colour):
    return WHITE if colour == BLACK else BLACK


def beside(size, place):
    column = place % size
    near = []
    if place >= size:
        near.append(place - size)
    if column > 0:
        near.append(place - 1)
    if column < size - 1:
        near.append(place + 1)
    if place + size < size * size:
        near.append(place + size)
    return near


def sides_of_all(size):
    return [beside(size, place) for place in range(size * size)]


# Of a stone it is the string, of an empty place the empty places that hang together with it.
def part_of(board, sides, place):
    colour = board[place]
    found = {place: True}
    waiting = [place]
    while waiting:
        here = waiting.pop()
        for side in sides[here]:
            if board[side] == colour and side not in found:
                found[side] = True
                waiting.append(side)
    return list(found)


def parts_of(board, sides, colour):
    parts = []
    looked_at = {}
    for place, there in enumerate(board):
        if there == colour and place not in looked_at:
            part = part_of(board, sides, place)
            parts.append(part)
            for member in part:
                looked_at[member] = True
    return parts


def breaths_of(board, sides, string):
    # A dict, since a place beside several stones of the string is one breath.
    found = {}
    for place in string:
        for side in sides[place]:
            if board[side] == EMPTY:
                found[side] = True
    return list(found)


# Nothing if it has one.
def string_without_breath(board, sides, place):
    # Most stones have a breath of their own: then the string needn't be walked.
    if any([board[side] == EMPTY for side in sides[place]]):
        return []
    string = part_of(board, sides, place)
    return [] if breaths_of(board, sides, string) else string


def all_strings_breathe(board, sides):
    strings = parts_of(board, sides, BLACK) + parts_of(board, sides, WHITE)
    return not any([string_without_breath(board, sides, string[0]) for string in strings])


# Changes the board, which must be a list of the caller's own; answers how many stones went.
def take_if_breathless(board, sides, place):
    string = string_without_breath(board, sides, place)
    for stone in string:
        board[stone] = EMPTY
    return len(string)


# The board stays as it is, since the stone may be refused or undone.
def put(board, sides, colour, place):
    changed = list(board)
    changed[place] = colour
    other = other_colour(colour)
    others_taken = 0
    for side in sides[place]:
        # A string beside the stone twice is gone by the second look, and so is counted once.
        if changed[side] == other:
            others_taken += take_if_breathless(changed, sides, side)
    own_taken = take_if_breathless(changed, sides, place)
    return Outcome(tuple(changed), others_taken, own_taken)
