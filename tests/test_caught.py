"""Point 7: chases."""

import unittest

from tests.helper import BLACK, LEAST, MOST, WHITE
from tests.helper import ask, begin, caught, laid, last, lay, mark, play, rows, turns

KO = """
.XO.
X.XO
.XO.
....
"""
# White's stone at (3, 3) runs down to the right, where nothing stands.
LADDER = [begin(19), lay(WHITE, 3, 3), lay(BLACK, 2, 3), lay(BLACK, 3, 2), lay(BLACK, 2, 4)]


class Refused(unittest.TestCase):
    def test_places_beyond(self):
        for x, y in ((-1, 0), (0, -1), (3, 0), (0, 3), (LEAST, 0), (0, MOST)):
            self.assertEqual(last(begin(3), caught(x, y, 1)), [-2], (x, y))

    def test_turns_beyond(self):
        for number in (-1, 41, LEAST, MOST):
            self.assertEqual(last(*laid("OX. ... ..."), caught(0, 0, number)), [-2], number)

    def test_nothing_is_there(self):
        self.assertEqual(last(begin(3), caught(1, 1, 0)), [-1])
        self.assertEqual(last(begin(3), caught(1, 1, 40)), [-1])

    def test_of_several_the_first_told(self):
        self.assertEqual(last(begin(3), caught(1, 1, 41)), [-2])
        self.assertEqual(last(begin(3), caught(1, 1, -1)), [-2])


class Caught(unittest.TestCase):
    def asked(self, picture, x, y, numbers, suicide=0):
        calls = laid(picture, suicide=suicide)
        return [last(*calls, caught(x, y, number))[0] for number in numbers]

    def test_in_0_turns_it_is_not(self):
        self.assertEqual(self.asked("OX. ... ...", 0, 0, [0]), [0])

    def test_one_breath(self):
        self.assertEqual(self.asked("OX. ... ...", 0, 0, [1, 2, 40]), [1, 1, 1])
        self.assertEqual(self.asked("XO. ... ...", 0, 0, [1]), [1])

    def test_three_breaths(self):
        self.assertEqual(self.asked(".O. ... ...", 1, 0, [1, 40]), [0, 0])
        self.assertEqual(self.asked(".X. XO. ...", 1, 0, [1, 40]), [0, 0])

    def test_four_breaths(self):
        self.assertEqual(self.asked("... .O. ...", 1, 1, [40]), [0])

    def test_three_breaths_on_the_way(self):
        self.assertEqual(self.asked("..... ..... .XO.. ..X.. .....", 2, 2, [1, 40]), [0, 0])

    def test_two_breaths_in_the_corner(self):
        # 1, 3; 4, 6; then the string has one breath, 7.
        self.assertEqual(self.asked("O.. ... ...", 0, 0, [0, 1, 2, 3, 4, 40]), [0, 0, 0, 1, 1, 1])

    def test_any_stone_of_the_string_may_be_named(self):
        self.assertEqual(self.asked("OX. OX. ...", 0, 0, [1]), [1])
        self.assertEqual(self.asked("OX. OX. ...", 0, 1, [1]), [1])

    def test_without_any_way_it_is_caught(self):
        # Behind black's stone at (1, 0) white's at (0, 1) would have no breath.
        self.assertEqual(self.asked("O... .X.. X... ....", 0, 0, [0, 1, 40]), [0, 1, 1])
        # With suicide let it can't be put so either.
        self.assertEqual(self.asked("O... .X.. X... ....", 0, 0, [0, 1, 40], 1), [0, 1, 1])

    def test_it_takes_chasers_at_its_last_breath(self):
        # As above, but black's two stones have one breath then, where white takes them.
        self.assertEqual(self.asked("O.O. .XO. XO.. ....", 0, 0, [1, 2, 40]), [0, 0, 0])

    def test_it_takes_a_chaser_elsewhere(self):
        # Behind black's stone at (2, 1) no stone can be put at (3, 0); but the one at (0, 1) is taken.
        self.assertEqual(self.asked("OOO.X XO.X. .X... ..... .....", 0, 0, [1, 2, 3, 40]), [0, 0, 1, 1])
        # Here it has more than one breath.
        self.assertEqual(self.asked("OOO.X XO.X. XX... ..... .....", 0, 0, [1]), [1])

    def test_a_stone_that_is_not_beside_it_is_no_way(self):
        # The stone at (4, 4) has one breath, but is no chaser.
        self.assertEqual(self.asked("OOO.X XO.X. XX... ..... ...OX", 0, 0, [1]), [1])

    def test_the_other_colour_can_not_put_a_stone(self):
        # Two breaths, at neither of which black's stone would have one.
        picture = ".O.O OOOO XXXX ...."
        self.assertEqual(self.asked(picture, 1, 0, [1, 2, 40]), [0, 0, 0])
        self.assertEqual(self.asked(picture, 1, 0, [1, 2, 40], 1), [0, 0, 0])

    def test_boards_that_have_been_do_not_matter(self):
        told = ask(*laid(KO), play(WHITE, 1, 1), play(BLACK, 2, 1), caught(1, 1, 1))
        self.assertEqual(told[-3:], [[1], [-4], [1]])

    def test_a_board_may_come_again_in_the_chase(self):
        # If no board could come again here, these would be caught in 4 turns.
        self.assertEqual(self.asked("OX.. ...X O..O ....", 1, 0, [4, 40]), [0, 0])
        self.assertEqual(self.asked(".... ..O. .OX. O..X", 2, 2, [4, 40]), [0, 0])

    def test_chasers_that_can_be_taken_on_small_boards(self):
        # Each would be caught if it could not take chasers.
        self.assertEqual(self.asked("...X ...O XO.. ....", 3, 1, [4]), [0])
        self.assertEqual(self.asked("...X XX.. .... X...", 0, 3, [4]), [0])
        self.assertEqual(self.asked(".... X... .X.X X..O", 3, 2, [4]), [0])

    def test_white_and_black_alike(self):
        self.assertEqual(self.asked("X.. ... ...", 0, 0, [2, 3]), [0, 1])
        self.assertEqual(self.asked("X.X. .OX. OX.. ....", 0, 0, [1, 40]), [0, 0])


class Ladders(unittest.TestCase):
    def asked(self, more, number):
        return last(*LADDER, *more, caught(3, 3, number))

    def test_it_ends_at_the_edge(self):
        self.assertEqual(self.asked([], 29), [0])
        self.assertEqual(self.asked([], 30), [1])
        self.assertEqual(self.asked([], 40), [1])

    def test_it_ends_at_a_stone_of_its_own_colour(self):
        for place in ((15, 15), (9, 9), (9, 8), (5, 5)):
            self.assertEqual(self.asked([lay(WHITE, place[0], place[1])], 40), [0], place)

    def test_a_stone_beside_the_way_does_not_matter(self):
        for place in ((15, 3), (3, 15), (12, 6)):
            self.assertEqual(self.asked([lay(WHITE, place[0], place[1])], 40), [1], place)

    def test_a_stone_of_the_other_colour_ends_it_earlier(self):
        self.assertEqual(self.asked([lay(BLACK, 9, 9)], 11), [0])
        self.assertEqual(self.asked([lay(BLACK, 9, 9)], 12), [1])

    def test_a_chaser_with_one_breath_lets_it_go(self):
        # The chaser at (3, 2) has one breath, and is taken behind the first turn or later.
        more = [lay(WHITE, 2, 2), lay(WHITE, 3, 1)]
        self.assertEqual(self.asked(more, 40), [0])

    def test_asking_changes_nothing(self):
        told = ask(*LADDER, rows(), caught(3, 3, 40), rows(), turns())
        self.assertEqual(told[-4], told[-2])
        self.assertEqual(told[-1], [0])

    def test_the_marks_do_not_matter(self):
        self.assertEqual(last(*LADDER, mark(2, 3), mark(3, 3), caught(3, 3, 40)), [1])

    def test_asked_many_times(self):
        told = ask(*LADDER, *[caught(3, 3, number) for number in (40, 29, 30, 40, 0)] * 20)
        self.assertEqual(told[len(LADDER):], [[1], [0], [1], [1], [0]] * 20)


if __name__ == "__main__":
    unittest.main()
