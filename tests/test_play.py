"""Points 1, 2 and 4: a stone is put, what is taken, and what is refused."""

import unittest

from tests.helper import BLACK, LEAST, MOST, WHITE
from tests.helper import ask, begin, board, laid, last, look, pass_turn, play, rows, undo

KO = """
.XO.
X.XO
.XO.
....
"""


class Taking(unittest.TestCase):
    def after(self, picture, turn, suicide=0):
        """What a turn answers on a board that is laid, and the board behind it."""
        return ask(*laid(picture, suicide=suicide), turn, rows())[-2:]

    def test_nothing_is_taken(self):
        self.assertEqual(self.after("... .X. ...", play(WHITE, 0, 0)), [[0], board("O.. .X. ...")])

    def test_one_stone_in_each_corner(self):
        corners = (
            ("OX. ... ...", play(BLACK, 0, 1), ".X. X.. ..."),
            (".XO ... ...", play(BLACK, 2, 1), ".X. ..X ..."),
            ("... ... OX.", play(BLACK, 0, 1), "... X.. .X."),
            ("... ... .XO", play(BLACK, 2, 1), "... ..X .X."),
        )
        for picture, turn, behind in corners:
            self.assertEqual(self.after(picture, turn), [[1], board(behind)])

    def test_one_stone_on_each_edge(self):
        edges = (
            ("XO. .X. ...", play(BLACK, 2, 0), "X.X .X. ..."),
            ("X.. OX. ...", play(BLACK, 0, 2), "X.. .X. X.."),
            ("..X .XO ...", play(BLACK, 2, 2), "..X .X. ..X"),
            ("... .X. XO.", play(BLACK, 2, 2), "... .X. X.X"),
        )
        for picture, turn, behind in edges:
            self.assertEqual(self.after(picture, turn), [[1], board(behind)])

    def test_one_stone_in_the_middle(self):
        self.assertEqual(self.after(".X. XO. .X.", play(BLACK, 2, 1)), [[1], board(".X. X.X .X.")])

    def test_rows_do_not_hang_together_round_the_edge(self):
        self.assertEqual(self.after("..O X.. ...", play(WHITE, 1, 1)), [[0], board("..O XO. ...")])
        self.assertEqual(self.after("X.. OX. ...", play(BLACK, 0, 2))[0], [1])

    def test_places_aslant_do_not_hang_together(self):
        self.assertEqual(self.after("OX. .O. ...", play(BLACK, 0, 1)), [[1], board(".X. XO. ...")])

    def test_a_string_of_several(self):
        self.assertEqual(
            self.after("XXXX. OOOX. .XX.. ..... .....", play(BLACK, 0, 2)),
            [[3], board("XXXX. ...X. XXX.. ..... .....")],
        )

    def test_white_takes_black(self):
        self.assertEqual(self.after("XO. XO. ...", play(WHITE, 0, 2)), [[2], board(".O. .O. O..")])

    def test_four_strings_at_once(self):
        picture = """
        ..X..
        .XOX.
        XO.OX
        .XOX.
        ..X..
        """
        behind = """
        ..X..
        .X.X.
        X.X.X
        .X.X.
        ..X..
        """
        self.assertEqual(self.after(picture, play(BLACK, 2, 2)), [[4], board(behind)])

    def test_strings_of_different_size_at_once(self):
        self.assertEqual(
            self.after("O.OX XXOX ..X. ....", play(BLACK, 1, 0)),
            [[3], board(".X.X XX.X ..X. ....")],
        )

    def test_of_two_strings_the_one_with_a_breath_stays(self):
        self.assertEqual(
            self.after("O.OX X.OX .XX. ....", play(BLACK, 1, 0)),
            [[1], board(".XOX X.OX .XX. ....")],
        )

    def test_a_string_beside_the_stone_twice_is_counted_once(self):
        picture = """
        .XX..
        XOOX.
        XO.X.
        XOOX.
        .XX..
        """
        behind = """
        .XX..
        X..X.
        X.XX.
        X..X.
        .XX..
        """
        self.assertEqual(self.after(picture, play(BLACK, 2, 2)), [[5], board(behind)])

    def test_a_string_with_another_breath_stays(self):
        self.assertEqual(self.after("OO. X.. ...", play(BLACK, 1, 1)), [[0], board("OO. XX. ...")])

    def test_a_stone_of_its_own_colour_is_not_taken_by_the_taking_stone(self):
        # The stone has no breath until it takes, and then it has one.
        self.assertEqual(self.after(".OX OX. X..", play(BLACK, 0, 0))[0], [2])
        self.assertEqual(self.after(".OX OX. X..", play(BLACK, 0, 0))[1], board("X.X .X. X.."))

    def test_the_other_colour_is_taken_ahead_of_its_own_where_suicide_is_let(self):
        self.assertEqual(self.after(".OX OX. X..", play(BLACK, 0, 0), suicide=1), [[2], board("X.X .X. X..")])

    def test_all_but_one_place_is_taken_at_once(self):
        places = [(x, y) for y in range(19) for x in range(19)][1:]
        calls = [play(BLACK, x, y) for x, y in places] + [play(WHITE, 0, 0), rows()]
        told = ask(*calls)
        self.assertEqual(told[:360], [[0]] * 360)
        self.assertEqual(told[360:], [[360], [361, 2] + [0] * 360])

    def test_either_colour_in_any_order(self):
        told = ask(begin(3), play(WHITE, 0, 0), play(WHITE, 1, 0), play(BLACK, 0, 1), play(BLACK, 1, 1), rows())
        self.assertEqual(told[1:], [[0], [0], [0], [0], board("OO. XX. ...")])


class Suicide(unittest.TestCase):
    def test_one_stone_not_let(self):
        for suicide_place in (play(WHITE, 0, 0), play(WHITE, 1, 1)):
            told = ask(*laid(".X. X.X .X."), suicide_place, rows())
            self.assertEqual(told[-2:], [[-3], board(".X. X.X .X.")])

    def test_one_stone_let_leaves_the_board_that_was_there(self):
        told = ask(*laid(".X. X.X .X.", suicide=1), play(WHITE, 1, 1), rows(), undo())
        self.assertEqual(told[-3:], [[-4], board(".X. X.X .X."), [-5]])

    def test_several_stones_not_let(self):
        told = ask(*laid("O.X XX. ..."), play(WHITE, 1, 0), rows(), undo())
        self.assertEqual(told[-3:], [[-3], board("O.X XX. ..."), [-5]])

    def test_several_stones_let(self):
        told = ask(*laid("O.X XX. ...", suicide=1), play(WHITE, 1, 0), rows(), undo(), rows())
        self.assertEqual(told[-4:], [[2], board("..X XX. ..."), [0], board("O.X XX. ...")])

    def test_strings_joined_by_the_stone_go_together(self):
        told = ask(*laid("O.OX XOX. .X.. ....", suicide=1), play(WHITE, 1, 0), rows())
        self.assertEqual(told[-2:], [[4], board("...X X.X. .X.. ....")])

    def test_several_stones_let_back_to_the_board_that_was_laid(self):
        turns = [play(BLACK, 0, 0), play(BLACK, 1, 0), play(BLACK, 0, 1), play(BLACK, 1, 1), rows()]
        self.assertEqual(ask(begin(2, 0, 1), *turns)[-2:], [[-4], [4, 1, 1, 1, 0]])
        self.assertEqual(ask(begin(2, 0, 0), *turns)[-2:], [[-3], [4, 1, 1, 1, 0]])

    def test_black_as_white(self):
        told = ask(begin(3, 0, 1), play(WHITE, 1, 0), play(WHITE, 0, 1), play(BLACK, 0, 0))
        self.assertEqual(told[-1], [-4])
        self.assertEqual(last(*laid("X.O OO. ...", suicide=1), play(BLACK, 1, 0)), [2])


class NoBoardTwice(unittest.TestCase):
    def ko(self, *turns, suicide=0):
        return ask(*laid(KO, suicide=suicide), *turns)[len(laid(KO)):]

    def test_the_board_that_was_laid(self):
        told = self.ko(play(WHITE, 1, 1), play(BLACK, 2, 1), rows())
        self.assertEqual(told, [[1], [-4], board(".XO. XO.O .XO. ....")])

    def test_the_board_behind_a_stone_played(self):
        told = self.ko(play(BLACK, 3, 3), play(WHITE, 1, 1), play(BLACK, 2, 1))
        self.assertEqual(told, [[0], [1], [-4]])

    def test_passes_between_change_nothing(self):
        told = self.ko(play(WHITE, 1, 1), pass_turn(BLACK), pass_turn(WHITE), play(BLACK, 2, 1))
        self.assertEqual(told, [[1], [0], [0], [-4]])

    def test_the_board_behind_a_pass(self):
        told = self.ko(play(BLACK, 3, 3), pass_turn(WHITE), play(WHITE, 1, 1), play(BLACK, 2, 1))
        self.assertEqual(told, [[0], [0], [1], [-4]])

    def test_a_stone_elsewhere_makes_it_another_board(self):
        told = self.ko(play(WHITE, 1, 1), play(BLACK, 3, 3), play(BLACK, 2, 1))
        self.assertEqual(told, [[1], [0], [1]])

    def test_one_from_some_turns_ago(self):
        told = ask(
            begin(2), play(BLACK, 1, 0), play(WHITE, 1, 1), play(BLACK, 0, 0), play(WHITE, 0, 1),
            play(WHITE, 0, 0), play(BLACK, 1, 0), rows(),
        )
        self.assertEqual(told[1:], [[0], [0], [0], [2], [0], [-4], [4, 2, 0, 2, 2]])

    def test_one_from_long_ago(self):
        places = [(x, y) for y in range(19) for x in range(19)][1:]
        fill = [play(BLACK, x, y) for x, y in places] + [pass_turn(BLACK)] * 300
        told = ask(play(WHITE, 0, 0), *fill, play(WHITE, 0, 0), look(0, 0), look(18, 18))
        self.assertEqual(told[-3:], [[-4], [0], [1]])
        self.assertEqual(sum(answer[0] for answer in told[:-3]), 1)

    def test_a_board_that_only_an_undone_turn_had(self):
        told = ask(begin(3), play(BLACK, 0, 0), undo(), play(BLACK, 0, 0), undo(), play(WHITE, 0, 0))
        self.assertEqual(told[1:], [[0], [0], [0], [0], [0]])

    def test_a_board_that_an_undone_turn_and_none_other_had_is_free_by_another_way(self):
        first = [play(BLACK, 0, 0), play(WHITE, 2, 2)]
        told = ask(begin(3), *first, undo(), undo(), play(WHITE, 2, 2), play(BLACK, 0, 0), rows())
        self.assertEqual(told[-3:], [[0], [0], board("X.. ... ..O")])

    def test_undone_the_ko_may_be_taken_again(self):
        told = self.ko(play(WHITE, 1, 1), undo(), play(WHITE, 1, 1), play(BLACK, 2, 1))
        self.assertEqual(told, [[1], [0], [1], [-4]])

    def test_an_undone_pass_leaves_the_board_one_that_has_been(self):
        told = self.ko(play(BLACK, 3, 3), pass_turn(WHITE), undo(), play(WHITE, 1, 1), play(BLACK, 2, 1))
        self.assertEqual(told, [[0], [0], [0], [1], [-4]])

    def test_an_undone_pass_leaves_the_laid_board_one_that_has_been(self):
        told = self.ko(pass_turn(WHITE), undo(), play(WHITE, 1, 1), play(BLACK, 2, 1))
        self.assertEqual(told, [[0], [0], [1], [-4]])

    def test_a_refused_stone_leaves_no_board(self):
        told = self.ko(play(WHITE, 1, 1), play(BLACK, 2, 1), undo(), rows(), undo())
        self.assertEqual(told, [[1], [-4], [0], board(KO), [-5]])


class Refusals(unittest.TestCase):
    def test_colours_beyond(self):
        for colour in (0, 3, -1, LEAST, MOST):
            self.assertEqual(ask(play(colour, 0, 0), look(0, 0), undo()), [[-2], [0], [-5]], colour)

    def test_places_beyond(self):
        for x, y in ((-1, 0), (0, -1), (5, 0), (0, 5), (LEAST, 0), (0, LEAST), (MOST, 0), (0, MOST)):
            told = ask(begin(5), play(BLACK, x, y), rows(), undo())
            self.assertEqual(told[1:], [[-2], [25] + [0] * 25, [-5]], (x, y))

    def test_there_is_a_stone(self):
        for first in (BLACK, WHITE):
            for second in (BLACK, WHITE):
                told = ask(begin(3), play(first, 1, 1), play(second, 1, 1), look(1, 1), undo(), undo())
                self.assertEqual(told[1:], [[0], [-1], [first], [0], [-5]])

    def test_there_is_a_stone_that_was_laid(self):
        self.assertEqual(last(*laid("X. .."), play(WHITE, 0, 0)), [-1])

    def test_2_is_ahead_of_1(self):
        self.assertEqual(ask(play(BLACK, 3, 3), play(0, 3, 3), play(3, 3, 3))[1:], [[-2], [-2]])

    def test_2_is_ahead_of_3_and_4(self):
        self.assertEqual(last(*laid(".X X."), play(3, 0, 0)), [-2])
        told = ask(*laid(KO), play(WHITE, 1, 1), play(0, 2, 1))
        self.assertEqual(told[-1], [-2])

    def test_1_is_ahead_of_3_and_4(self):
        # On a stone that stands with its last breath gone neither suicide nor the board is asked for.
        told = ask(*laid("XX X."), play(BLACK, 0, 0), play(WHITE, 0, 0))
        self.assertEqual(told[-2:], [[-1], [-1]])

    def test_3_is_ahead_of_4(self):
        # A single stone that takes itself leaves the board that was there; where that is let it is -4.
        self.assertEqual(last(*laid(".X. X.. ..."), play(WHITE, 0, 0)), [-3])
        self.assertEqual(last(*laid(".X. X.. ...", suicide=1), play(WHITE, 0, 0)), [-4])

    def test_6_at_1000_turns_and_2_ahead_of_it(self):
        told = ask(play(BLACK, 0, 0), *[pass_turn(WHITE)] * 999, play(WHITE, 1, 0), play(3, 1, 0), play(1, 19, 0))
        self.assertEqual(told[-4:], [[0], [-6], [-2], [-2]])

    def test_6_is_ahead_of_1(self):
        told = ask(play(BLACK, 0, 0), *[pass_turn(WHITE)] * 999, play(WHITE, 0, 0))
        self.assertEqual(told[-1], [-6])

    def test_6_is_ahead_of_3(self):
        told = ask(*laid(".X. X.. ..."), *[pass_turn(WHITE)] * 1000, play(WHITE, 0, 0))
        self.assertEqual(told[-1], [-6])

    def test_6_is_ahead_of_4(self):
        told = ask(*laid(KO), *[pass_turn(WHITE)] * 999, play(WHITE, 1, 1), play(BLACK, 2, 1))
        self.assertEqual(told[-2:], [[1], [-6]])

    def test_the_1000th_turn_may_be_a_stone(self):
        told = ask(*[pass_turn(WHITE)] * 999, play(BLACK, 0, 0), play(BLACK, 1, 1), look(0, 0), look(1, 1))
        self.assertEqual(told[-4:], [[0], [-6], [1], [0]])


if __name__ == "__main__":
    unittest.main()
