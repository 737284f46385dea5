"""The desk: the calls that are made of one game.

Each call answers a list of whole numbers; a refusal is one number below 0, and changes nothing.
"""

from stonebreathdesk.chase import MOST_CHASED
from stonebreathdesk.chase import is_caught_in
from stonebreathdesk.game import Game
from stonebreathdesk.game import PASS
from stonebreathdesk.game import empty_board
from stonebreathdesk.life import safe_places
from stonebreathdesk.plans import WrongNodes
from stonebreathdesk.plans import plan_of
from stonebreathdesk.points import score_of
from stonebreathdesk.records import NotARecord
from stonebreathdesk.records import line_of
from stonebreathdesk.refusals import NOT_A_RECORD
from stonebreathdesk.refusals import NO_TURN
from stonebreathdesk.refusals import WRONG_INPUT
from stonebreathdesk.refusals import WRONG_NODES
from stonebreathdesk.refusals import WRONG_PLACE
from stonebreathdesk.refusals import WRONG_PLAY
from stonebreathdesk.refusals import WRONG_TURNS
from stonebreathdesk.rules import FIRST_SIZE
from stonebreathdesk.rules import MOST_TURNS
from stonebreathdesk.rules import is_komi
from stonebreathdesk.rules import is_no_or_yes
from stonebreathdesk.rules import is_player
from stonebreathdesk.rules import is_size
from stonebreathdesk.stones import EMPTY
from stonebreathdesk.stones import breaths_of
from stonebreathdesk.stones import part_of
from stonebreathdesk.telling import record_of

MOST_BYTES = 65536


def new_game(size, komi, suicide):
    return Game(size, komi, suicide, empty_board(size))


# None if one of the turns can't be made.
def game_planned(plan, suicide):
    game = Game(plan.size, plan.komi, suicide, plan.laid)
    for colour, place in plan.turns:
        if place == PASS:
            game.play_pass(colour)
        elif game.play_stone(colour, place) < 0:
            return None
    return game


class Desk:
    def __init__(self):
        self.game = new_game(FIRST_SIZE, 0, 0)

    def has_place(self, x, y):
        return 0 <= x < self.game.size and 0 <= y < self.game.size

    def place_at(self, x, y):
        return y * self.game.size + x

    # 0 if there is none: for calls that ask for a stone.
    def refusal_at(self, x, y):
        if not self.has_place(x, y):
            return WRONG_INPUT
        if self.game.board_now()[self.place_at(x, y)] == EMPTY:
            return WRONG_PLACE
        return 0

    def begin(self, size, komi, suicide):
        if not (is_size(size) and is_komi(komi) and is_no_or_yes(suicide)):
            return [WRONG_INPUT]
        self.game = new_game(size, komi, suicide)
        return [0]

    def lay(self, colour, x, y):
        if not (colour == EMPTY or is_player(colour)) or not self.has_place(x, y):
            return [WRONG_INPUT]
        if self.game.turns:
            return [WRONG_TURNS]
        return [self.game.lay_stone(colour, self.place_at(x, y))]

    def play(self, colour, x, y):
        if not is_player(colour) or not self.has_place(x, y):
            return [WRONG_INPUT]
        if len(self.game.turns) >= MOST_TURNS:
            return [WRONG_TURNS]
        return [self.game.play_stone(colour, self.place_at(x, y))]

    def pass_turn(self, colour):
        if not is_player(colour):
            return [WRONG_INPUT]
        if len(self.game.turns) >= MOST_TURNS:
            return [WRONG_TURNS]
        self.game.play_pass(colour)
        return [0]

    def undo(self):
        if not self.game.turns:
            return [NO_TURN]
        self.game.undo_turn()
        return [0]

    def look(self, x, y):
        if not self.has_place(x, y):
            return [WRONG_INPUT]
        return [self.game.board_now()[self.place_at(x, y)]]

    def rows(self):
        board = self.game.board_now()
        return [len(board)] + list(board)

    def string(self, x, y):
        refusal = self.refusal_at(x, y)
        if refusal != 0:
            return [refusal]
        board = self.game.board_now()
        stones = part_of(board, self.game.sides, self.place_at(x, y))
        breaths = breaths_of(board, self.game.sides, stones)
        return [len(stones), len(breaths)] + sorted(stones)

    def may(self, colour):
        if not is_player(colour):
            return [WRONG_INPUT]
        found = [place for place, there in enumerate(self.game.board_now()) if self.game.could_play(colour, place)]
        return [len(found)] + found

    def mark(self, x, y):
        refusal = self.refusal_at(x, y)
        if refusal != 0:
            return [refusal]
        self.game.mark_string(self.place_at(x, y))
        return [0]

    def score(self, how):
        if not is_no_or_yes(how):
            return [WRONG_INPUT]
        return [0] + score_of(self.game, how == 1)

    def safe(self, colour):
        if not is_player(colour):
            return [WRONG_INPUT]
        found = safe_places(self.game.board_now(), self.game.sides, colour)
        return [len(found)] + found

    def caught(self, x, y, turns):
        if not 0 <= turns <= MOST_CHASED:
            return [WRONG_INPUT]
        refusal = self.refusal_at(x, y)
        if refusal != 0:
            return [refusal]
        is_caught = is_caught_in(self.game.board_now(), self.game.size, self.place_at(x, y), turns)
        return [1 if is_caught else 0]

    def read(self, suicide, record):
        if not is_no_or_yes(suicide) or len(record) > MOST_BYTES:
            return [WRONG_INPUT]
        try:
            plan = plan_of(line_of(record))
        except NotARecord:
            return [NOT_A_RECORD]
        except WrongNodes:
            return [WRONG_NODES]
        game = game_planned(plan, suicide)
        if game is None:
            return [WRONG_PLAY]
        # Counted only now: of several refusals a turn that can't be made comes first.
        if len(game.turns) > MOST_TURNS:
            return [WRONG_TURNS]
        self.game = game
        return [len(game.turns)]

    def told(self):
        record = record_of(self.game)
        return [len(record)] + record

    def all_turns(self):
        numbers = [len(self.game.turns)]
        for turn in self.game.turns:
            numbers.extend([turn.colour, turn.place, turn.others_taken + turn.own_taken])
        return numbers
