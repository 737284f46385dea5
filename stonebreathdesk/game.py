"""The game: its rules, the board as it was laid, its turns, and the places marked dead.

What can't be done is answered by its refusal, a number below 0, and changes nothing.
"""

from stonebreathdesk.refusals import BOARD_AGAIN
from stonebreathdesk.refusals import NO_BREATH
from stonebreathdesk.refusals import WRONG_PLACE
from stonebreathdesk.stones import EMPTY
from stonebreathdesk.stones import all_strings_breathe
from stonebreathdesk.stones import part_of
from stonebreathdesk.stones import put
from stonebreathdesk.stones import sides_of_all

PASS = -1


# The counts are apart, since stones that took themselves are the other's points.
class Turn:
    def __init__(self, colour, place, others_taken, own_taken):
        self.colour = colour
        self.place = place
        self.others_taken = others_taken
        self.own_taken = own_taken


def empty_board(size):
    return tuple([EMPTY] * (size * size))


# boards holds the board as it was laid, then the one behind each turn: undo goes back along it.
# been holds the same boards, to be found at once.
class Game:
    def __init__(self, size, komi, suicide, laid):
        self.size = size
        self.komi = komi
        self.suicide = suicide
        self.sides = sides_of_all(size)
        self.turns = []
        self.set_laid(laid)

    def set_laid(self, board):
        self.boards = [board]
        self.been = {board: True}
        self.dead = {}

    def board_laid(self):
        return self.boards[0]

    def board_now(self):
        return self.boards[-1]

    def lay_stone(self, colour, place):
        board = list(self.board_now())
        board[place] = colour
        if not all_strings_breathe(board, self.sides):
            return NO_BREATH
        self.set_laid(tuple(board))
        return 0

    def put_stone(self, colour, place):
        return put(self.board_now(), self.sides, colour, place)

    # 0 if there is none.
    def refusal_of(self, outcome):
        if outcome.own_taken > 0 and self.suicide == 0:
            return NO_BREATH
        if outcome.board in self.been:
            return BOARD_AGAIN
        return 0

    def could_play(self, colour, place):
        if self.board_now()[place] != EMPTY:
            return False
        return self.refusal_of(self.put_stone(colour, place)) == 0

    # The number of turns is not asked here: a record's turns are all made before they are counted.
    def play_stone(self, colour, place):
        if self.board_now()[place] != EMPTY:
            return WRONG_PLACE
        outcome = self.put_stone(colour, place)
        refusal = self.refusal_of(outcome)
        if refusal != 0:
            return refusal
        self.add_turn(Turn(colour, place, outcome.others_taken, outcome.own_taken), outcome.board)
        return outcome.others_taken + outcome.own_taken

    def play_pass(self, colour):
        self.add_turn(Turn(colour, PASS, 0, 0), self.board_now())

    def add_turn(self, turn, board):
        self.turns.append(turn)
        self.boards.append(board)
        self.been[board] = True
        self.dead = {}

    def undo_turn(self):
        turn = self.turns.pop()
        board = self.boards.pop()
        # A pass leaves the board that was there before it; a stone played always makes a new one.
        if turn.place != PASS:
            self.been.pop(board)
        self.dead = {}

    def mark_string(self, place):
        was_marked = place in self.dead
        for stone in part_of(self.board_now(), self.sides, place):
            if was_marked:
                self.dead.pop(stone)
            else:
                self.dead[stone] = True

    # How many stones of a colour were taken, by the other or by themselves.
    def lost_by(self, colour):
        lost = 0
        for turn in self.turns:
            lost += turn.own_taken if turn.colour == colour else turn.others_taken
        return lost
