"""Point 5: may and turns."""

import unittest

from tests.helper import BLACK, LEAST, MOST, WHITE
from tests.helper import ask, begin, laid, last, mark, may, pass_turn, play, read, rows, turns, undo

KO = """
.XO.
X.XO
.XO.
....
"""


def all_but(size, *left_out):
    found = [place for place in range(size * size) if place not in left_out]
    return [len(found)] + found


class May(unittest.TestCase):
    def test_an_empty_board(self):
        self.assertEqual(last(may(BLACK)), all_but(19))
        self.assertEqual(last(begin(2), may(WHITE)), [4, 0, 1, 2, 3])

    def test_colours_beyond(self):
        for colour in (0, 3, -1, LEAST, MOST):
            self.assertEqual(last(may(colour)), [-2], colour)

    def test_where_a_stone_is(self):
        for colour in (BLACK, WHITE):
            self.assertEqual(last(*laid("X.. .O. ..."), may(colour)), all_but(3, 0, 4))

    def test_where_its_own_string_would_be_taken(self):
        calls = laid(".X. X.. ...")
        self.assertEqual(last(*calls, may(WHITE)), [6, 2, 4, 5, 6, 7, 8])
        self.assertEqual(last(*calls, may(BLACK)), [7, 0, 2, 4, 5, 6, 7, 8])

    def test_where_a_string_of_several_would_be_taken(self):
        self.assertEqual(last(*laid("O.X XX. ..."), may(WHITE)), [4, 5, 6, 7, 8])

    def test_where_it_takes_it_has_a_breath(self):
        self.assertEqual(last(*laid(".XO XO. O.."), may(WHITE)), [4, 0, 5, 7, 8])

    def test_suicide_where_it_is_let(self):
        calls = laid("O.X XX. ...", suicide=1)
        self.assertEqual(last(*calls, may(WHITE)), [5, 1, 5, 6, 7, 8])
        # One stone alone that takes itself leaves the board as it was.
        self.assertEqual(last(*laid(".X. X.. ...", suicide=1), may(WHITE)), [6, 2, 4, 5, 6, 7, 8])

    def test_no_board_twice(self):
        taking = laid(KO) + [play(WHITE, 1, 1)]
        # At 6 the board would be as it was laid; at 3 the stone would have no breath.
        self.assertEqual(last(*taking, may(BLACK)), [7, 0, 8, 11, 12, 13, 14, 15])
        # With another stone elsewhere the board is another one.
        self.assertEqual(last(*taking, play(BLACK, 0, 3), may(BLACK)), [7, 0, 6, 8, 11, 13, 14, 15])

    def test_no_board_twice_where_nothing_is_taken(self):
        # White takes itself, and can't come back by the stone that was there before.
        calls = laid(".OX XX. ...", suicide=1) + [play(WHITE, 0, 0)]
        self.assertEqual(ask(*calls)[-1], [2])
        self.assertEqual(last(*calls, may(WHITE)), [5, 0, 5, 6, 7, 8])
        self.assertEqual(last(*calls, may(BLACK)), [6, 0, 1, 5, 6, 7, 8])

    def test_a_turn_undone_has_not_been(self):
        calls = [begin(3), play(BLACK, 0, 0), undo()]
        self.assertEqual(last(*calls, may(BLACK)), all_but(3))

    def test_it_answers_as_play_would(self):
        for colour in (BLACK, WHITE):
            calls = laid(KO) + [play(WHITE, 1, 1)]
            could = [
                place for place in range(16) if last(*calls, play(colour, place % 4, place // 4))[0] >= 0
            ]
            self.assertEqual(last(*calls, may(colour)), [len(could)] + could)

    def test_whatever_the_number_of_turns(self):
        calls = laid(KO) + [play(WHITE, 1, 1)]
        before = last(*calls, may(BLACK))
        full = calls + [pass_turn(BLACK)] * 999
        self.assertEqual(ask(*full, play(BLACK, 0, 3), may(BLACK))[-2:], [[-6], before])

    def test_asking_changes_nothing(self):
        told = ask(*laid(KO), rows(), may(BLACK), may(WHITE), rows(), turns())
        self.assertEqual(told[-5], told[-2])
        self.assertEqual(told[-1], [0])


class Turns(unittest.TestCase):
    def test_there_are_none(self):
        self.assertEqual(last(turns()), [0])
        self.assertEqual(last(*laid("XO. ... ..."), turns()), [0])

    def test_stones_and_passes_of_either_colour(self):
        told = last(
            begin(5), play(BLACK, 3, 1), play(BLACK, 0, 0), pass_turn(WHITE), play(WHITE, 4, 4), pass_turn(BLACK), turns()
        )
        self.assertEqual(told, [5, 1, 8, 0, 1, 0, 0, 2, -1, 0, 2, 24, 0, 1, -1, 0])

    def test_what_is_refused_is_none(self):
        told = last(begin(3), play(BLACK, 0, 0), play(WHITE, 0, 0), play(3, 1, 1), pass_turn(0), turns())
        self.assertEqual(told, [1, 1, 0, 0])

    def test_stones_taken(self):
        told = last(*laid("XXX OO. ..."), play(BLACK, 2, 1), play(BLACK, 0, 2), play(BLACK, 1, 2), turns())
        self.assertEqual(told, [3, 1, 5, 0, 1, 6, 0, 1, 7, 2])

    def test_its_own_stones_taken(self):
        self.assertEqual(last(*laid("O.X XX. ...", suicide=1), play(WHITE, 1, 0), turns()), [1, 2, 1, 2])

    def test_undone_turns_have_not_been(self):
        told = ask(begin(3), play(BLACK, 0, 0), pass_turn(WHITE), undo(), turns(), undo(), turns())
        self.assertEqual([told[-3], told[-1]], [[1, 1, 0, 0], [0]])

    def test_begin_has_none(self):
        self.assertEqual(last(play(BLACK, 0, 0), begin(5), turns()), [0])

    def test_a_game_that_was_read(self):
        record = "(;SZ[3]AB[ba]AW[aa];W[cc];C[no turn];B[ab];B[];W[tt])"
        self.assertEqual(ask(read(record), turns()), [[4], [4, 2, 8, 0, 1, 3, 1, 1, -1, 0, 2, -1, 0]])

    def test_1000_turns(self):
        told = last(*[pass_turn(BLACK)] * 1000, pass_turn(WHITE), turns())
        self.assertEqual(told, [1000] + [1, -1, 0] * 1000)

    def test_marks_are_no_turns(self):
        self.assertEqual(last(*laid("XO. ... ..."), mark(0, 0), turns()), [0])


if __name__ == "__main__":
    unittest.main()
