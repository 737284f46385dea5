"""Chases: whether a string is caught, when the other colour puts the first stone.

A chase may come to any number of boards. So what is found of them is kept within a fixed bound, and
each search goes first where it may end soon.
"""

from stonebreathdesk.grid import Grid
from stonebreathdesk.grid import is_one
from stonebreathdesk.grid import one_by_one
from stonebreathdesk.memory import ENOUGH
from stonebreathdesk.memory import MOST_KEPT
from stonebreathdesk.memory import Memory
from stonebreathdesk.memory import TOO_FEW
from stonebreathdesk.stones import other_colour

MOST_CHASED = 40
# More turns than are ever asked about: if so many are too few, any number is; if so many are the
# fewest known to be enough, none is known to be.
NEVER = 41


# A board of a chase: all stones of the chased string's colour, all of the other, those of the string.
class Scene:
    def __init__(self, grid, own, others, chased):
        self.own = own
        self.others = others
        self.chased = chased
        self.empty = grid.all_places ^ own ^ others
        self.breaths = one_by_one(grid.beside(chased) & self.empty)


def how_many_breaths(scene):
    return len(scene.breaths)


# The others end at once: a string with one breath is taken.
def how_many_go_on(ways):
    return len([scene for scene in ways if len(scene.breaths) > 1])


# Bounds are a tuple: the most turns known to be too few, and the fewest known to be enough. Those of
# a search always tell of the turns it was asked about that they are the one or the other.
class Chase:
    def __init__(self, size, most_kept):
        self.grid = Grid(size)
        self.memory = Memory(most_kept, (0, NEVER, 0))
        self.searched = 0

    def first_scene(self, board, place):
        colour = board[place]
        other = other_colour(colour)
        own = self.grid.bits_of([spot for spot, there in enumerate(board) if there == colour])
        others = self.grid.bits_of([spot for spot, there in enumerate(board) if there == other])
        return Scene(self.grid, own, others, self.grid.part_of(self.grid.bit_of(place), own))

    def bounds(self, scene, turns):
        if len(scene.breaths) > 2:
            return (NEVER, NEVER)
        # A stone at its one breath takes it, and has a breath itself by that.
        if len(scene.breaths) == 1:
            return (0, 1)
        board = scene.own << self.grid.length | scene.others
        known = self.memory.known_of(board)
        if turns <= known[TOO_FEW] or turns >= known[ENOUGH]:
            return (known[TOO_FEW], known[ENOUGH])
        searched_before = self.searched
        self.searched += 1
        found = self.search(scene, turns)
        self.memory.keep(board, found[TOO_FEW], found[ENOUGH], self.searched - searched_before)
        return found

    # The other colour needs one stone behind which the string is caught on all its ways.
    def search(self, scene, turns):
        too_few = NEVER
        for ways in self.stones_to_put(scene):
            found = self.bounds_of_ways(ways, turns)
            if found[ENOUGH] <= turns:
                return found
            too_few = min(too_few, found[TOO_FEW])
        return (too_few, NEVER)

    # The string needs one way on which it isn't caught in the turns that are left.
    def bounds_of_ways(self, ways, turns):
        enough = 1
        for scene in ways:
            found = self.bounds(scene, turns - 1)
            if found[TOO_FEW] >= turns - 1:
                return (min(found[TOO_FEW] + 1, NEVER), NEVER)
            enough = max(enough, found[ENOUGH] + 1)
        return (0, enough)

    # Of each stone that the other colour can put: the ways that the string has then. Those that leave
    # the fewest to be searched come first: if there is none the string is caught.
    def stones_to_put(self, scene):
        found = []
        for breath in scene.breaths:
            stones = self.grid.put(scene.others, scene.own, breath)
            if stones is not None:
                found.append(self.ways(Scene(self.grid, stones[1], stones[0], scene.chased)))
        return sorted(found, key=how_many_go_on)

    # Those that give the most breaths come first: with three it isn't caught.
    def ways(self, scene):
        found = []
        for place in self.places_to_go(scene):
            stones = self.grid.put(scene.own, scene.others, place)
            if stones is not None:
                found.append(Scene(self.grid, stones[0], stones[1], self.chased_behind(scene, stones[0], place)))
        return sorted(found, key=how_many_breaths, reverse=True)

    def chased_behind(self, scene, own, place):
        # A stone that takes chasers may stand apart from the string.
        if not self.grid.beside(place) & scene.chased:
            return scene.chased
        return self.grid.part_of(scene.chased | place, own)

    # Its last breath comes behind the places where it takes chasers: to take is what saves it most
    # often, and to run first would be to search long for that.
    def places_to_go(self, scene):
        last_breath = scene.breaths[0]
        taking = 0
        for string in self.grid.parts_at(self.grid.beside(scene.chased), scene.others):
            breaths = self.grid.beside(string) & scene.empty
            if is_one(breaths):
                taking = taking | breaths
        return one_by_one(taking & ~last_breath) + [last_breath]

    def is_caught(self, scene, turns):
        # Few turns first, so that a short chase is found before long ones are searched.
        fewer = 1
        while fewer < turns:
            found = self.bounds(scene, fewer)
            if found[ENOUGH] <= fewer or found[TOO_FEW] >= turns:
                return found[ENOUGH] <= fewer
            fewer = 2 * fewer
        return self.bounds(scene, turns)[ENOUGH] <= turns


def is_caught_in(board, size, place, turns):
    chase = Chase(size, MOST_KEPT)
    return chase.is_caught(chase.first_scene(board, place), turns)
