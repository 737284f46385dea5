"""Point 4: pass and undo, and how many turns there may be."""

import unittest

from tests.helper import BLACK, LEAST, MOST, WHITE
from tests.helper import ask, begin, board, laid, last, lay, look, pass_turn, play, rows, undo


class Pass(unittest.TestCase):
    def test_either_colour_and_again(self):
        told = ask(pass_turn(BLACK), pass_turn(BLACK), pass_turn(WHITE), pass_turn(WHITE))
        self.assertEqual(told, [[0]] * 4)

    def test_colours_beyond(self):
        for colour in (0, 3, -1, LEAST, MOST):
            self.assertEqual(ask(pass_turn(colour), undo()), [[-2], [-5]], colour)

    def test_the_board_stays(self):
        told = ask(*laid("XO. ... ..."), pass_turn(BLACK), rows())
        self.assertEqual(told[-1], board("XO. ... ..."))

    def test_it_is_a_turn(self):
        self.assertEqual(ask(pass_turn(BLACK), lay(BLACK, 0, 0), undo(), undo()), [[0], [-6], [0], [-5]])

    def test_1000_turns_and_not_one_more(self):
        told = ask(*[pass_turn(BLACK)] * 1000, pass_turn(WHITE), pass_turn(3), play(BLACK, 0, 0), look(0, 0))
        self.assertEqual(told[:1000], [[0]] * 1000)
        self.assertEqual(told[1000:], [[-6], [-2], [-6], [0]])

    def test_stones_and_passes_are_counted_together(self):
        stones = [play(BLACK, x, y) for y in range(0, 18, 2) for x in range(19)]
        told = ask(*stones, *[pass_turn(WHITE)] * (1000 - len(stones)), pass_turn(BLACK), play(WHITE, 18, 18))
        self.assertEqual(told[-3:], [[0], [-6], [-6]])

    def test_undone_turns_are_not_counted(self):
        told = ask(*[pass_turn(BLACK)] * 1000, undo(), undo(), *[pass_turn(WHITE)] * 3)
        self.assertEqual(told[-5:], [[0], [0], [0], [0], [-6]])

    def test_refused_turns_are_not_counted(self):
        told = ask(*[pass_turn(3)] * 100, *[pass_turn(BLACK)] * 1000, pass_turn(BLACK))
        self.assertEqual(told[-2:], [[0], [-6]])


class Undo(unittest.TestCase):
    def test_there_is_none(self):
        told = ask(undo(), lay(BLACK, 0, 0), undo(), look(0, 0))
        self.assertEqual(told, [[-5], [0], [-5], [1]])

    def test_a_stone(self):
        told = ask(begin(3), play(BLACK, 1, 1), play(WHITE, 0, 0), undo(), rows(), undo(), rows(), undo())
        self.assertEqual(told[3:], [[0], board("... .X. ..."), [0], [9] + [0] * 9, [-5]])

    def test_a_pass(self):
        told = ask(begin(3), play(BLACK, 1, 1), pass_turn(WHITE), undo(), rows(), undo(), rows())
        self.assertEqual(told[3:], [[0], board("... .X. ..."), [0], [9] + [0] * 9])

    def test_what_was_taken_is_back(self):
        told = ask(*laid("XXX OO. ..."), play(BLACK, 2, 1), play(BLACK, 0, 2), play(BLACK, 1, 2), rows(), undo(), rows())
        self.assertEqual(told[-4:], [[2], board("XXX ..X XX."), [0], board("XXX OOX X..")])

    def test_several_strings_that_were_taken_are_back(self):
        picture = "O.OX XXOX ..X. ...."
        told = ask(*laid(picture), play(BLACK, 1, 0), undo(), rows(), play(BLACK, 1, 0))
        self.assertEqual(told[-4:], [[3], [0], board(picture), [3]])

    def test_stones_that_took_themselves_are_back(self):
        told = ask(*laid("O.X XX. ...", suicide=1), play(WHITE, 1, 0), undo(), rows(), undo())
        self.assertEqual(told[-4:], [[2], [0], board("O.X XX. ..."), [-5]])

    def test_what_was_laid_stays(self):
        told = ask(*laid("XO. ... ..."), play(BLACK, 2, 2), undo(), undo(), rows())
        self.assertEqual(told[-3:], [[0], [-5], board("XO. ... ...")])

    def test_all_of_a_long_game(self):
        turns = [play(1 + (x + y) % 2, x, y) for y in range(18) for x in range(19) if (x + 2 * y) % 3]
        told = ask(*turns, *[undo()] * len(turns), undo(), rows())
        self.assertEqual(told[-2:], [[-5], [361] + [0] * 361])

    def test_behind_it_other_turns_can_be_made(self):
        told = ask(begin(3), play(BLACK, 0, 0), undo(), play(WHITE, 0, 0), pass_turn(BLACK), rows())
        self.assertEqual(told[-1], board("O.. ... ..."))
        self.assertEqual(last(begin(3), pass_turn(BLACK), undo(), lay(BLACK, 1, 1), undo()), [-5])


if __name__ == "__main__":
    unittest.main()
