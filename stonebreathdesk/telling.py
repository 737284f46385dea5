"""Telling a game: from the game to the bytes of its record."""

from stonebreathdesk.game import PASS
from stonebreathdesk.stones import BLACK
from stonebreathdesk.stones import WHITE

LETTERS = "abcdefghijklmnopqrs"


def komi_text(komi):
    sign = "-" if komi < 0 else ""
    half = ".5" if komi % 2 == 1 else ""
    # abs first, since // goes down: -1 // 2 would be -1.
    return sign + str(abs(komi) // 2) + half


def place_text(size, place):
    return "[" + LETTERS[place % size] + LETTERS[place // size] + "]"


# Nothing if no stone of the colour was laid: a name needs a value.
def laid_text(game, name, colour):
    places = [place_text(game.size, place) for place, there in enumerate(game.board_laid()) if there == colour]
    return name + "".join(places) if places else ""


def turn_text(size, turn):
    name = "B" if turn.colour == BLACK else "W"
    place = "[]" if turn.place == PASS else place_text(size, turn.place)
    return ";" + name + place


def record_of(game):
    texts = ["(;GM[1]FF[4]SZ[", str(game.size), "]KM[", komi_text(game.komi), "]"]
    texts.append(laid_text(game, "AB", BLACK))
    texts.append(laid_text(game, "AW", WHITE))
    texts.extend([turn_text(game.size, turn) for turn in game.turns])
    texts.append(")")
    return [ord(sign) for sign in "".join(texts)]
