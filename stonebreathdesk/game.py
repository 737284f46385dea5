"""The game: its rules, the board as it was laid, its turns, and the calls that are made of it.

Each call answers a list of whole numbers; a refusal is one number below 0, and changes nothing.
"""

from stonebreathdesk.stones import BLACK
from stonebreathdesk.stones import EMPTY
from stonebreathdesk.stones import WHITE
from stonebreathdesk.stones import all_strings_breathe
from stonebreathdesk.stones import breaths_of
from stonebreathdesk.stones import put
from stonebreathdesk.stones import sides_of_all
from stonebreathdesk.stones import string_of

FIRST_SIZE = 19
LEAST_SIZE = 2
MOST_SIZE = 19
MOST_KOMI = 2000
MOST_TURNS = 1000
PASS = -1

WRONG_PLACE = -1
WRONG_INPUT = -2
NO_BREATH = -3
BOARD_AGAIN = -4
NO_TURN = -5
WRONG_TURNS = -6


def is_player(colour):
    return colour == BLACK or colour == WHITE


def are_rules(size, komi, suicide):
    return (
        LEAST_SIZE <= size <= MOST_SIZE
        and -MOST_KOMI <= komi <= MOST_KOMI
        and 0 <= suicide <= 1
    )


# boards holds the board as it was laid, then the one behind each turn: undo goes back along it.
# been holds the same boards, to be found at once.
class Game:
    def __init__(self):
        self.start_anew(FIRST_SIZE, 0, 0)

    def start_anew(self, size, komi, suicide):
        self.size = size
        self.komi = komi
        self.suicide = suicide
        self.sides = sides_of_all(size)
        self.turns = []
        self.set_laid(tuple([EMPTY] * (size * size)))

    def set_laid(self, board):
        self.boards = [board]
        self.been = {board: True}

    def board_now(self):
        return self.boards[-1]

    def has_place(self, x, y):
        return 0 <= x < self.size and 0 <= y < self.size

    def place_at(self, x, y):
        return y * self.size + x

    def add_turn(self, colour, place, taken, board):
        self.turns.append((colour, place, taken))
        self.boards.append(board)
        self.been[board] = True

    def begin(self, size, komi, suicide):
        if not are_rules(size, komi, suicide):
            return [WRONG_INPUT]
        self.start_anew(size, komi, suicide)
        return [0]

    def lay(self, colour, x, y):
        if not (colour == EMPTY or is_player(colour)) or not self.has_place(x, y):
            return [WRONG_INPUT]
        if self.turns:
            return [WRONG_TURNS]
        board = list(self.board_now())
        board[self.place_at(x, y)] = colour
        if not all_strings_breathe(board, self.sides):
            return [NO_BREATH]
        self.set_laid(tuple(board))
        return [0]

    def play(self, colour, x, y):
        if not is_player(colour) or not self.has_place(x, y):
            return [WRONG_INPUT]
        if len(self.turns) >= MOST_TURNS:
            return [WRONG_TURNS]
        place = self.place_at(x, y)
        if self.board_now()[place] != EMPTY:
            return [WRONG_PLACE]
        outcome = put(self.board_now(), self.sides, colour, place)
        if outcome.own_taken > 0 and self.suicide == 0:
            return [NO_BREATH]
        if outcome.board in self.been:
            return [BOARD_AGAIN]
        taken = outcome.others_taken + outcome.own_taken
        self.add_turn(colour, place, taken, outcome.board)
        return [taken]

    def pass_turn(self, colour):
        if not is_player(colour):
            return [WRONG_INPUT]
        if len(self.turns) >= MOST_TURNS:
            return [WRONG_TURNS]
        self.add_turn(colour, PASS, 0, self.board_now())
        return [0]

    def undo(self):
        if not self.turns:
            return [NO_TURN]
        turn = self.turns.pop()
        board = self.boards.pop()
        # A pass leaves the board that was there before it; a stone played always makes a new one.
        if turn[1] != PASS:
            self.been.pop(board)
        return [0]

    def look(self, x, y):
        if not self.has_place(x, y):
            return [WRONG_INPUT]
        return [self.board_now()[self.place_at(x, y)]]

    def rows(self):
        board = self.board_now()
        return [len(board)] + list(board)

    def string(self, x, y):
        if not self.has_place(x, y):
            return [WRONG_INPUT]
        board = self.board_now()
        place = self.place_at(x, y)
        if board[place] == EMPTY:
            return [WRONG_PLACE]
        stones = string_of(board, self.sides, place)
        breaths = breaths_of(board, self.sides, stones)
        return [len(stones), len(breaths)] + stones
