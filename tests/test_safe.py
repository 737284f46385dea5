"""Point 6: the strings that nothing can take."""

import unittest

from tests.helper import BLACK, LEAST, MOST, WHITE
from tests.helper import ask, begin, laid, last, mark, places, play, rows, safe


class Safe(unittest.TestCase):
    def check(self, picture, colour, expected):
        """The expected picture holds S where the stones are safe."""
        found = places(expected, "S")
        self.assertEqual(last(*laid(picture), safe(colour)), [len(found)] + found)

    def none_is_safe(self, picture, colour):
        self.assertEqual(last(*laid(picture), safe(colour)), [0])

    def test_an_empty_board(self):
        self.assertEqual(ask(safe(BLACK), safe(WHITE)), [[0], [0]])

    def test_colours_beyond(self):
        for colour in (0, 3, -1, LEAST, MOST):
            self.assertEqual(last(*laid("X.. ... ..."), safe(colour)), [-2], colour)

    def test_two_vital_grounds(self):
        self.check(".X.X. XXXX. ..... ..... .....", BLACK, ".S.S. SSSS. ..... ..... .....")

    def test_white_likewise_and_black_not(self):
        picture = ".O.O. OOOO. ...XX ..... ....."
        self.check(picture, WHITE, ".S.S. SSSS. ..... ..... .....")
        self.none_is_safe(picture, BLACK)

    def test_one_vital_ground(self):
        self.none_is_safe(".X... XX... ..... ..... .....", BLACK)

    def test_no_vital_ground(self):
        self.none_is_safe("..... ..... ..X.. ..... .....", BLACK)

    def test_the_rest_of_the_board_may_be_a_vital_ground(self):
        self.check(".X. XXX .X.", BLACK, ".S. SSS .S.")
        self.check("XX. XX. .XX", BLACK, "SS. SS. .SS")

    def test_all_empty_places_of_a_ground_must_be_breaths(self):
        # The larger ground has an empty place that isn't beside the string.
        self.none_is_safe(".X... XX... XXXXX ..... .....", BLACK)
        self.check(".X..X XXXXX ..... ..... .....", BLACK, ".S..S SSSSS ..... ..... .....")

    def test_a_ground_with_two_empty_places_counts_once(self):
        self.none_is_safe("..X.. XXX.. ..... ..... .....", BLACK)

    def test_stones_of_the_other_colour_in_a_ground(self):
        # The empty places of the ground with white in it must be breaths; white's stones needn't be beside.
        picture = """
        .XOO.X
        XXOOXX
        .XX.XX
        .XXXX.
        ......
        ......
        """
        self.check(picture, BLACK, picture.replace("X", "S"))
        picture = """
        .XO.OX
        XXXOXX
        ..XXX.
        ......
        ......
        ......
        """
        self.none_is_safe(picture, BLACK)

    def test_a_ground_cut_by_stones_of_the_other_colour_is_one(self):
        # Two empty places, but both in one ground.
        self.none_is_safe(".O.X. XXXX. ..... ..... .....", BLACK)

    def test_a_ground_vital_to_two_strings(self):
        self.check("X.X.. .XX.. XX... ..... .....", BLACK, "S.S.. .SS.. SS... ..... .....")
        self.check(".X.XX XXX.X ...XX ..... .....", BLACK, ".S.SS SSS.S ...SS ..... .....")

    def test_two_strings_that_share_both_grounds(self):
        picture = """
        .XO..
        X.XO.
        .XXO.
        XXOO.
        OO...
        """
        self.check(picture, BLACK, """
        .SO..
        S.SO.
        .SSO.
        SSOO.
        OO...
        """)

    def test_one_string_put_away_takes_the_ground_from_another(self):
        # The stone at 3 has one ground, at 2: without it the string at 1 has the one at 0 alone.
        self.none_is_safe(".X.XO XXXO. ..... ..... .....", BLACK)

    def test_grounds_are_put_away_in_turn(self):
        # On the right a string has one ground; so the next has one less, and so the third.
        picture = """
        .X.X.XO
        XXXOXX.
        .......
        .......
        .......
        .......
        .......
        """
        self.none_is_safe(picture, BLACK)

    def test_strings_that_live_by_one_anothers_grounds(self):
        picture = """
        .X.X.X.
        XXXOXXX
        .......
        .......
        .......
        .......
        .......
        """
        self.check(picture, BLACK, picture.replace("X", "S"))

    def test_a_string_that_lives_beside_one_that_does_not(self):
        picture = """
        .X.X.OX
        XXXXOO.
        ....O..
        ..X....
        .......
        .......
        .......
        """
        self.check(picture, BLACK, """
        .S.S...
        SSSS...
        .......
        .......
        .......
        .......
        .......
        """)

    def test_strings_of_both_colours(self):
        picture = """
        .X.XO.O
        XXXXOOO
        XXXOOO.
        OOOOO..
        .......
        .......
        .......
        """
        self.check(picture, BLACK, """
        .S.S...
        SSSS...
        SSS....
        .......
        .......
        .......
        .......
        """)
        self.none_is_safe(picture, WHITE)

    def test_the_marks_do_not_matter(self):
        calls = laid(".X.X. XXXX. ..... ..... .....")
        self.assertEqual(last(*calls, mark(1, 0), safe(BLACK)), [6, 1, 3, 5, 6, 7, 8])

    def test_boards_that_were_played(self):
        calls = laid(".X.X. XXX.. ..... ..... .....")
        self.assertEqual(ask(*calls, safe(BLACK), play(BLACK, 3, 1), safe(BLACK))[-3:], [[0], [0], [6, 1, 3, 5, 6, 7, 8]])

    def test_asking_changes_nothing(self):
        told = ask(*laid(".X.X. XXXX. ..... ..... ....."), rows(), safe(BLACK), safe(WHITE), rows())
        self.assertEqual(told[-4], told[-1])

    def test_the_smallest_board(self):
        self.assertEqual(last(begin(2), play(BLACK, 0, 0), play(BLACK, 1, 1), safe(BLACK)), [2, 0, 3])
        self.assertEqual(last(begin(2), play(BLACK, 0, 0), play(BLACK, 1, 0), safe(BLACK)), [0])


if __name__ == "__main__":
    unittest.main()
