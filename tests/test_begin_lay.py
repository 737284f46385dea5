"""Point 3, and the game that there is at first."""

import unittest

from tests.helper import BLACK, LEAST, MOST, WHITE
from tests.helper import ask, begin, board, laid, last, lay, look, pass_turn, play, rows, string, undo


class FirstGame(unittest.TestCase):
    def test_it_has_size_19_and_nothing_on_it(self):
        self.assertEqual(last(rows()), [361] + [0] * 361)

    def test_its_corners_are_the_last_places(self):
        told = ask(look(18, 18), look(19, 0), look(0, 19), look(18, 0), look(0, 18))
        self.assertEqual(told, [[0], [-2], [-2], [0], [0]])

    def test_it_has_no_turns(self):
        self.assertEqual(ask(undo(), lay(BLACK, 0, 0)), [[-5], [0]])

    def test_suicide_is_not_let(self):
        told = ask(play(BLACK, 1, 0), play(BLACK, 0, 1), play(WHITE, 0, 0))
        self.assertEqual(told, [[0], [0], [-3]])

    def test_suicide_of_several_is_not_let(self):
        stones = [play(BLACK, 2, 0), play(BLACK, 1, 1), play(BLACK, 0, 1), play(WHITE, 0, 0)]
        self.assertEqual(last(*stones, play(WHITE, 1, 0)), [-3])


class Begin(unittest.TestCase):
    def test_every_size_from_2_to_19(self):
        for size in range(2, 20):
            told = ask(begin(size), rows(), look(size - 1, size - 1), look(size, 0), look(0, size))
            self.assertEqual(told, [[0], [size * size] + [0] * (size * size), [0], [-2], [-2]])

    def test_sizes_beyond(self):
        for size in (1, 20, 0, -2, LEAST, MOST):
            self.assertEqual(last(begin(size)), [-2], size)

    def test_komi_within_its_bounds(self):
        for komi in (-2000, -1999, -1, 0, 13, 1999, 2000):
            self.assertEqual(last(begin(9, komi)), [0], komi)

    def test_komi_beyond(self):
        for komi in (-2001, 2001, LEAST, MOST):
            self.assertEqual(last(begin(9, komi)), [-2], komi)

    def test_suicide_0_and_1(self):
        self.assertEqual(ask(begin(9, 0, 0), begin(9, 0, 1)), [[0], [0]])

    def test_suicide_beyond(self):
        for suicide in (-1, 2, LEAST, MOST):
            self.assertEqual(last(begin(9, 0, suicide)), [-2], suicide)

    def test_in_the_middle_of_a_game_all_is_new(self):
        calls = laid("XX. OO. ...") + [play(BLACK, 2, 2), pass_turn(WHITE), begin(4), rows(), undo()]
        self.assertEqual(ask(*calls)[-3:], [[0], [16] + [0] * 16, [-5]])

    def test_stones_can_be_laid_again_behind_it(self):
        told = ask(play(BLACK, 0, 0), lay(WHITE, 1, 1), begin(19), lay(WHITE, 1, 1))
        self.assertEqual(told, [[0], [-6], [0], [0]])

    def test_boards_of_the_game_before_have_not_been(self):
        told = ask(begin(3), play(BLACK, 0, 0), begin(3), play(BLACK, 0, 0))
        self.assertEqual(told, [[0], [0], [0], [0]])

    def test_the_rules_are_the_new_ones(self):
        corner = [lay(BLACK, 2, 0), lay(BLACK, 1, 1), lay(BLACK, 0, 1), lay(WHITE, 0, 0), play(WHITE, 1, 0)]
        self.assertEqual(last(begin(3, 0, 0), begin(3, 0, 1), *corner), [2])
        self.assertEqual(last(begin(3, 0, 1), begin(3, 0, 0), *corner), [-3])

    def test_turns_are_counted_anew(self):
        told = ask(*[pass_turn(BLACK)] * 1000, pass_turn(BLACK), begin(19), pass_turn(BLACK))
        self.assertEqual(told[-3:], [[-6], [0], [0]])

    def test_refused_nothing_changes(self):
        for wrong in (begin(1), begin(20), begin(5, 2001), begin(5, -2001), begin(5, 0, 2), begin(5, 0, -1)):
            calls = laid("XX. ... ...", suicide=1) + [play(WHITE, 2, 2), wrong, rows(), undo(), rows(), undo()]
            told = ask(*calls)
            self.assertEqual(told[-5:], [[-2], board("XX. ... ..O"), [0], board("XX. ... ..."), [-5]])

    def test_refused_the_rules_stay(self):
        corner = laid("O.X XX. ...", suicide=1)
        self.assertEqual(ask(*corner, begin(20, 0, 0), play(WHITE, 1, 0))[-2:], [[-2], [2]])


class Lay(unittest.TestCase):
    def test_each_colour(self):
        told = ask(begin(3), lay(0, 0, 0), lay(1, 1, 0), lay(2, 2, 0), rows())
        self.assertEqual(told[1:], [[0], [0], [0], board(".XO ... ...")])

    def test_x_is_the_column_and_y_the_row(self):
        self.assertEqual(last(begin(3), lay(WHITE, 2, 1), rows()), board("... ..O ..."))

    def test_colours_beyond(self):
        for colour in (-1, 3, LEAST, MOST):
            self.assertEqual(ask(lay(colour, 0, 0), look(0, 0)), [[-2], [0]], colour)

    def test_places_beyond(self):
        for x, y in ((-1, 0), (0, -1), (5, 0), (0, 5), (LEAST, 0), (0, LEAST), (MOST, 0), (0, MOST)):
            told = ask(begin(5), lay(BLACK, x, y), rows())
            self.assertEqual(told[1:], [[-2], [25] + [0] * 25], (x, y))

    def test_every_corner_can_be_laid(self):
        told = ask(begin(5), lay(1, 0, 0), lay(1, 4, 0), lay(2, 0, 4), lay(2, 4, 4), rows())
        self.assertEqual(told[1:], [[0]] * 4 + [board("X...X ..... ..... ..... O...O")])

    def test_on_another_stone(self):
        told = ask(begin(3), lay(BLACK, 1, 1), lay(WHITE, 1, 1), look(1, 1), lay(WHITE, 1, 1), look(1, 1))
        self.assertEqual(told[1:], [[0], [0], [2], [0], [2]])

    def test_taken_away_by_0(self):
        told = ask(begin(3), lay(BLACK, 1, 1), lay(0, 1, 1), rows(), lay(0, 1, 1))
        self.assertEqual(told[1:], [[0], [0], [9] + [0] * 9, [0]])

    def test_a_stone_of_its_own_colour_without_a_breath(self):
        calls = laid(".X. X.. ...") + [lay(WHITE, 0, 0), rows()]
        self.assertEqual(ask(*calls)[-2:], [[-3], board(".X. X.. ...")])

    def test_a_string_of_its_own_colour_without_a_breath(self):
        for colour in (BLACK, WHITE):
            told = ask(begin(2), lay(colour, 0, 0), lay(colour, 1, 0), lay(colour, 0, 1), lay(colour, 1, 1), rows())
            self.assertEqual(told[-2:], [[-3], [4, colour, colour, colour, 0]])

    def test_the_last_breath_of_the_other_colour_takes_nothing(self):
        for mine, others in ((BLACK, WHITE), (WHITE, BLACK)):
            calls = [begin(3), lay(others, 0, 0), lay(mine, 1, 0), lay(mine, 0, 1), rows()]
            told = ask(*calls)
            self.assertEqual(told[3:], [[-3], [9, others, mine, 0, 0, 0, 0, 0, 0, 0]])

    def test_a_stone_laid_on_a_string_that_parts_it(self):
        calls = laid("XXX OO. ...") + [lay(WHITE, 1, 0), rows()]
        self.assertEqual(ask(*calls)[-2:], [[-3], board("XXX OO. ...")])

    def test_a_stone_laid_on_another_has_its_neighbours_breaths_in_mind(self):
        calls = laid("XX. O.. ...") + [lay(WHITE, 1, 0), rows()]
        self.assertEqual(ask(*calls)[-2:], [[-3], board("XX. O.. ...")])

    def test_a_string_that_keeps_a_breath_far_off(self):
        calls = laid("XXX OOX ...") + [lay(WHITE, 1, 2), lay(WHITE, 0, 2), lay(WHITE, 2, 2)]
        self.assertEqual(ask(*calls)[-3:], [[0], [0], [-3]])

    def test_2_is_ahead_of_6(self):
        told = ask(pass_turn(BLACK), lay(3, 0, 0), lay(-1, 0, 0), lay(BLACK, 19, 0), lay(BLACK, 0, -1))
        self.assertEqual(told[1:], [[-2]] * 4)

    def test_2_is_ahead_of_3(self):
        self.assertEqual(last(*laid(".X X."), lay(3, 0, 0)), [-2])

    def test_6_is_ahead_of_3(self):
        calls = laid(".X. X.. ...") + [lay(WHITE, 0, 0), pass_turn(BLACK), lay(WHITE, 0, 0)]
        self.assertEqual(ask(*calls)[-3:], [[-3], [0], [-6]])

    def test_6_behind_a_stone_or_a_pass_and_nothing_changes(self):
        for turn in (play(BLACK, 1, 1), pass_turn(BLACK)):
            told = ask(begin(3), turn, rows(), lay(WHITE, 0, 0), lay(0, 1, 1), rows())
            self.assertEqual(told[3:5], [[-6], [-6]])
            self.assertEqual(told[2], told[5])

    def test_a_refused_turn_is_no_turn(self):
        told = ask(begin(3), play(3, 0, 0), pass_turn(0), undo(), lay(WHITE, 0, 0))
        self.assertEqual(told[1:], [[-2], [-2], [-5], [0]])

    def test_behind_an_undone_turn_there_has_been_none(self):
        told = ask(begin(3), play(BLACK, 1, 1), undo(), lay(WHITE, 1, 1), string(1, 1))
        self.assertEqual(told[1:], [[0], [0], [0], [1, 4, 4]])

    def test_a_stone_can_be_put_on_what_was_laid_on_the_way(self):
        told = ask(begin(3), lay(BLACK, 1, 1), lay(0, 1, 1), play(BLACK, 1, 1))
        self.assertEqual(told[1:], [[0], [0], [0]])


if __name__ == "__main__":
    unittest.main()
