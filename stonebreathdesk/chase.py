"""Chases: whether a string is caught, when the other colour puts the first stone."""

from stonebreathdesk.stones import EMPTY
from stonebreathdesk.stones import breaths_of
from stonebreathdesk.stones import other_colour
from stonebreathdesk.stones import part_of
from stonebreathdesk.stones import put


# A string that is caught in some turns is caught in more, and one that is not isn't in fewer: so of
# each board the fewest that are enough and the most that aren't are kept, and many ways that come
# to one board are gone once.
class Chase:
    def __init__(self, board, sides, place):
        self.sides = sides
        self.place = place
        self.colour = board[place]
        self.chaser = other_colour(self.colour)
        self.enough = {}
        self.too_few = {}

    def string_on(self, board):
        return part_of(board, self.sides, self.place)

    def is_caught(self, board, turns):
        if turns <= self.too_few.get(board, 0):
            return False
        if board in self.enough and turns >= self.enough[board]:
            return True
        caught = self.can_be_chased(board, turns)
        if caught:
            self.enough[board] = turns
        else:
            self.too_few[board] = turns
        return caught

    def can_be_chased(self, board, turns):
        breaths = breaths_of(board, self.sides, self.string_on(board))
        if len(breaths) > 2:
            return False
        for breath in breaths:
            outcome = put(board, self.sides, self.chaser, breath)
            if outcome.own_taken == 0 and self.has_no_way_out(outcome.board, turns):
                return True
        return False

    def has_no_way_out(self, board, turns):
        if board[self.place] == EMPTY:
            return True
        string = self.string_on(board)
        breaths = breaths_of(board, self.sides, string)
        if len(breaths) != 1:
            return False
        for way in breaths + self.last_breaths_of_chasers(board, string):
            outcome = put(board, self.sides, self.colour, way)
            if outcome.own_taken == 0 and not self.is_caught(outcome.board, turns - 1):
                return False
        return True

    def last_breaths_of_chasers(self, board, string):
        found = {}
        looked_at = {}
        for stone in string:
            for side in self.sides[stone]:
                if board[side] == self.chaser and side not in looked_at:
                    chasers = part_of(board, self.sides, side)
                    for place in chasers:
                        looked_at[place] = True
                    breaths = breaths_of(board, self.sides, chasers)
                    if len(breaths) == 1:
                        found[breaths[0]] = True
        return list(found)


def is_caught_in(board, sides, place, turns):
    return Chase(board, sides, place).is_caught(board, turns)
