"""What the nodes of a record's line say: how a game is to be begun, laid and played."""

from stonebreathdesk.game import PASS
from stonebreathdesk.game import empty_board
from stonebreathdesk.rules import FIRST_SIZE
from stonebreathdesk.rules import is_size
from stonebreathdesk.stones import BLACK
from stonebreathdesk.stones import EMPTY
from stonebreathdesk.stones import WHITE
from stonebreathdesk.stones import all_strings_breathe
from stonebreathdesk.stones import sides_of_all

MINUS = 45
POINT = 46
FIGURE_0 = 48
FIGURE_1 = 49
FIGURE_5 = 53
FIGURE_9 = 57
LETTER_A = 97
LETTER_T = 116
MOST_FIGURES = 4


class WrongNodes(Exception):
    pass


# Each turn is a tuple: its colour, and its place or PASS.
class Plan:
    def __init__(self, size, komi, laid, turns):
        self.size = size
        self.komi = komi
        self.laid = laid
        self.turns = turns


def shut_out(node, names):
    for name in names:
        if name in node:
            raise WrongNodes()


# None if the name is not there.
def only_value(node, name):
    if name not in node:
        return None
    uses = node[name]
    if len(uses) > 1 or len(uses[0]) > 1:
        raise WrongNodes()
    return uses[0][0]


def number_told(figures):
    if not 1 <= len(figures) <= MOST_FIGURES:
        raise WrongNodes()
    number = 0
    for figure in figures:
        if not FIGURE_0 <= figure <= FIGURE_9:
            raise WrongNodes()
        number = number * 10 + figure - FIGURE_0
    return number


def half_told(figures):
    if not figures or figures[0] not in (FIGURE_0, FIGURE_5):
        raise WrongNodes()
    zeros = figures[1:]
    if zeros.count(FIGURE_0) != len(zeros):
        raise WrongNodes()
    return 1 if figures[0] == FIGURE_5 else 0


def half_points_told(value):
    if POINT not in value:
        return 2 * number_told(value)
    point = value.index(POINT)
    return 2 * number_told(value[:point]) + half_told(value[point + 1:])


def check_game(node):
    value = only_value(node, "GM")
    if value is not None and value != [FIGURE_1]:
        raise WrongNodes()


def size_told(node):
    value = only_value(node, "SZ")
    if value is None:
        return FIRST_SIZE
    size = number_told(value)
    if not is_size(size):
        raise WrongNodes()
    return size


def komi_told(node):
    value = only_value(node, "KM")
    if value is None:
        return 0
    if value[:1] == [MINUS]:
        return -half_points_told(value[1:])
    return half_points_told(value)


def place_told(value, size):
    if len(value) != 2:
        raise WrongNodes()
    column = value[0] - LETTER_A
    row = value[1] - LETTER_A
    if not 0 <= column < size or not 0 <= row < size:
        raise WrongNodes()
    return row * size + column


# Changes the board, which must be a list of the caller's own.
def lay_all(board, size, colour, uses):
    for values in uses:
        for value in values:
            place = place_told(value, size)
            if board[place] != EMPTY:
                raise WrongNodes()
            board[place] = colour


def laid_told(node, size):
    board = list(empty_board(size))
    lay_all(board, size, BLACK, node.get("AB", []))
    lay_all(board, size, WHITE, node.get("AW", []))
    if not all_strings_breathe(board, sides_of_all(size)):
        raise WrongNodes()
    return tuple(board)


def turn_told(node, name, colour, size):
    value = only_value(node, name)
    if value == [] or value == [LETTER_T, LETTER_T]:
        return (colour, PASS)
    return (colour, place_told(value, size))


def turns_told(nodes, size):
    turns = []
    for node in nodes:
        shut_out(node, ("AB", "AW", "AE"))
        if "B" in node:
            shut_out(node, ("W",))
            turns.append(turn_told(node, "B", BLACK, size))
        elif "W" in node:
            turns.append(turn_told(node, "W", WHITE, size))
    return turns


def plan_of(line):
    first = line[0]
    shut_out(first, ("B", "W", "AE"))
    check_game(first)
    size = size_told(first)
    return Plan(size, komi_told(first), laid_told(first, size), turns_told(line[1:], size))
