"""Places as bits: the same strings, breaths and takes as places told one by one."""

import random
import unittest

from stonebreathdesk.grid import Grid, is_one, one_by_one
from stonebreathdesk.stones import breaths_of, part_of, put, sides_of_all


def bits_of_colour(grid, board, colour):
    return grid.bits_of([place for place, there in enumerate(board) if there == colour])


class Bits(unittest.TestCase):
    def test_one_by_one(self):
        self.assertEqual(one_by_one(0), [])
        self.assertEqual(one_by_one(0b101100), [0b100, 0b1000, 0b100000])

    def test_is_one(self):
        self.assertEqual([is_one(bits) for bits in (0, 1, 2, 3, 4, 6, 1 << 379)],
                         [False, True, True, False, True, False, True])

    def test_each_place_has_a_bit_of_its_own(self):
        for size in (2, 3, 19):
            grid = Grid(size)
            bits = {grid.bit_of(place) for place in range(size * size)}
            self.assertEqual(len(bits), size * size)
            self.assertEqual(sum(bits), grid.all_places)
            self.assertLess(grid.all_places, 1 << grid.length)

    def test_rows_do_not_run_into_one_another(self):
        for size in (2, 3, 5, 19):
            grid = Grid(size)
            for place, near in enumerate(sides_of_all(size)):
                self.assertEqual(grid.beside(grid.bit_of(place)) & grid.all_places, grid.bits_of(near), (size, place))


class AgainstPlaces(unittest.TestCase):
    def boards(self):
        for seed in range(60):
            chance = random.Random(seed)
            size = chance.choice([2, 3, 5, 8, 19])
            board = (0,) * (size * size)
            for turn in range(size * size * chance.choice([1, 2])):
                place = chance.randrange(size * size)
                if board[place] == 0:
                    board = put(board, sides_of_all(size), chance.choice([1, 2]), place).board
            yield size, board

    def test_strings(self):
        for size, board in self.boards():
            grid, sides = Grid(size), sides_of_all(size)
            empty = bits_of_colour(grid, board, 0)
            for place, there in enumerate(board):
                if there:
                    string = part_of(board, sides, place)
                    bits = grid.part_of(grid.bit_of(place), bits_of_colour(grid, board, there))
                    self.assertEqual(bits, grid.bits_of(string), (size, board, place))
                    self.assertEqual(grid.beside(bits) & empty, grid.bits_of(breaths_of(board, sides, string)))

    def test_stones_that_are_put(self):
        refused = taking = 0
        for size, board in self.boards():
            grid, sides = Grid(size), sides_of_all(size)
            for place in [place for place, there in enumerate(board) if there == 0]:
                for colour in (1, 2):
                    mine, theirs = [bits_of_colour(grid, board, there) for there in (colour, 3 - colour)]
                    outcome = put(board, sides, colour, place)
                    expected = tuple(bits_of_colour(grid, outcome.board, there) for there in (colour, 3 - colour))
                    if outcome.own_taken:
                        expected = None
                    self.assertEqual(grid.put(mine, theirs, grid.bit_of(place)), expected, (board, colour, place))
                    refused += outcome.own_taken > 0
                    taking += outcome.others_taken > 0
        self.assertGreater(min(refused, taking), 20)


if __name__ == "__main__":
    unittest.main()
