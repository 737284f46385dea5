"""Point 5: look, rows and string; and the strings and breaths of point 1."""

import unittest

from tests.helper import BLACK, LEAST, MOST, WHITE
from tests.helper import ask, begin, board, laid, last, look, play, rows, string, undo

BEYOND = ((-1, 0), (0, -1), (5, 0), (0, 5), (-1, -1), (5, 5), (LEAST, 0), (0, LEAST), (MOST, 0), (0, MOST))


class Look(unittest.TestCase):
    def test_what_is_there(self):
        told = ask(*laid("XO. ... ..X"), look(0, 0), look(1, 0), look(2, 0), look(0, 1), look(2, 2))
        self.assertEqual(told[-5:], [[1], [2], [0], [0], [1]])

    def test_x_is_the_column_and_y_the_row(self):
        told = ask(begin(5), play(BLACK, 3, 1), look(3, 1), look(1, 3))
        self.assertEqual(told[2:], [[1], [0]])

    def test_corners(self):
        told = ask(*laid("X...O ..... ..... ..... O...X"), look(0, 0), look(4, 0), look(0, 4), look(4, 4))
        self.assertEqual(told[-4:], [[1], [2], [2], [1]])

    def test_places_beyond(self):
        for x, y in BEYOND:
            self.assertEqual(last(begin(5), look(x, y)), [-2], (x, y))


class Rows(unittest.TestCase):
    def test_row_by_row(self):
        self.assertEqual(last(begin(3), play(BLACK, 1, 0), play(WHITE, 0, 2), rows()), [9, 0, 1, 0, 0, 0, 0, 2, 0, 0])

    def test_an_empty_board_of_every_size(self):
        for size in (2, 3, 18, 19):
            self.assertEqual(last(begin(size), rows()), [size * size] + [0] * (size * size))

    def test_asking_changes_nothing(self):
        told = ask(*laid("XO. .X. ..."), rows(), look(0, 0), string(0, 0), rows(), undo())
        self.assertEqual([told[-5], told[-2], told[-1]], [board("XO. .X. ...")] * 2 + [[-5]])


class String(unittest.TestCase):
    def test_places_beyond(self):
        for x, y in BEYOND:
            self.assertEqual(last(begin(5), string(x, y)), [-2], (x, y))

    def test_nothing_is_there(self):
        told = ask(begin(5), string(0, 0), string(4, 4), play(BLACK, 1, 1), string(1, 0), undo(), string(1, 1))
        self.assertEqual([told[1], told[2], told[4], told[6]], [[-1]] * 4)

    def test_one_stone_in_corners_on_edges_and_within(self):
        breaths = {(0, 0): 2, (4, 0): 2, (0, 4): 2, (4, 4): 2, (2, 0): 3, (0, 2): 3, (4, 2): 3, (2, 4): 3, (2, 2): 4}
        for (x, y), count in breaths.items():
            for colour in (BLACK, WHITE):
                self.assertEqual(last(begin(5), play(colour, x, y), string(x, y)), [1, count, y * 5 + x], (x, y))

    def test_places_rise_from_whichever_stone(self):
        picture = ".XX. X.X. XXX. ...."
        for x, y in ((1, 0), (2, 0), (0, 1), (2, 1), (0, 2), (1, 2), (2, 2)):
            self.assertEqual(last(*laid(picture), string(x, y)), [7, 8, 1, 2, 4, 6, 8, 9, 10], (x, y))

    def test_each_breath_is_counted_once(self):
        # The place in the ring's middle is beside four of its stones.
        self.assertEqual(last(*laid("XXX X.X XXX"), string(0, 0)), [8, 1, 0, 1, 2, 3, 5, 6, 7, 8])

    def test_only_empty_places_are_breaths(self):
        self.assertEqual(last(*laid(".O. OX. ..."), string(1, 1)), [1, 2, 4])
        self.assertEqual(last(*laid(".O. OX. ..."), string(1, 0)), [1, 2, 1])

    def test_stones_aslant_are_two_strings(self):
        told = ask(*laid("X.. .X. ..."), string(0, 0), string(1, 1))
        self.assertEqual(told[-2:], [[1, 2, 0], [1, 4, 4]])

    def test_the_end_of_a_row_is_not_beside_the_next_row(self):
        told = ask(*laid("..X X.. ..."), string(2, 0), string(0, 1))
        self.assertEqual(told[-2:], [[1, 2, 2], [1, 3, 3]])

    def test_the_other_colour_parts_a_string(self):
        told = ask(*laid("XOX ... ..."), string(0, 0), string(1, 0), string(2, 0))
        self.assertEqual(told[-3:], [[1, 1, 0], [1, 1, 1], [1, 1, 2]])

    def test_a_string_far_round_the_board(self):
        places = [(x, y) for y in range(19) for x in range(19) if y % 2 == 0 or x == (18 if y % 4 == 1 else 0)]
        calls = [play(WHITE, x, y) for x, y in places] + [string(0, 18)]
        rising = [y * 19 + x for x, y in places]
        self.assertEqual(last(*calls), [len(places), 361 - len(places)] + rising)

    def test_a_taken_stones_place_is_a_breath(self):
        told = ask(*laid("OX. ... ..."), play(BLACK, 0, 1), string(1, 0), string(0, 0))
        self.assertEqual(told[-2:], [[1, 3, 1], [-1]])


if __name__ == "__main__":
    unittest.main()
