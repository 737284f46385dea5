"""Life that nothing can take: the strings of a colour that keep two grounds vital to them."""

from stonebreathdesk.stones import BLACK
from stonebreathdesk.stones import EMPTY
from stonebreathdesk.stones import parts_of

LEAST_VITAL = 2


# Strings are told by their numbers here.
class Ground:
    def __init__(self, near, vital_to):
        self.near = near
        self.vital_to = vital_to


def grounds_of(board, sides, colour):
    # Empty places and the other's stones are alike in a ground.
    own_or_not = [BLACK if there == colour else EMPTY for there in board]
    return parts_of(own_or_not, sides, EMPTY)


def numbers_of(strings):
    numbers = {}
    for number, string in enumerate(strings):
        for stone in string:
            numbers[stone] = number
    return numbers


def strings_beside(sides, numbers, place):
    found = {}
    for side in sides[place]:
        if side in numbers:
            found[numbers[side]] = True
    return list(found)


def ground_among(board, sides, numbers, places):
    near = {}
    breaths = {}
    empty_places = 0
    for place in places:
        strings = strings_beside(sides, numbers, place)
        for string in strings:
            near[string] = True
        if board[place] == EMPTY:
            empty_places += 1
            for string in strings:
                breaths[string] = breaths.get(string, 0) + 1
    vital_to = [string for string in breaths if breaths[string] == empty_places]
    return Ground(near, vital_to)


def weak_among(strings, grounds):
    vital = {}
    for ground in grounds:
        for string in ground.vital_to:
            vital[string] = vital.get(string, 0) + 1
    return [string for string in strings if vital.get(string, 0) < LEAST_VITAL]


def strings_that_last(strings, grounds):
    weak = weak_among(strings, grounds)
    while weak:
        strings = [string for string in strings if string not in weak]
        grounds = [ground for ground in grounds if not any([string in ground.near for string in weak])]
        weak = weak_among(strings, grounds)
    return strings


def safe_places(board, sides, colour):
    strings = parts_of(board, sides, colour)
    numbers = numbers_of(strings)
    grounds = [ground_among(board, sides, numbers, places) for places in grounds_of(board, sides, colour)]
    safe = []
    for string in strings_that_last(list(range(len(strings))), grounds):
        safe.extend(strings[string])
    return sorted(safe)
