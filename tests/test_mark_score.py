"""Points 8 and 9: places marked dead, and the count; and when the marks go."""

import unittest

from tests.helper import BLACK, LEAST, MOST, WHITE
from tests.helper import ask, begin, caught, laid, last, lay, look, mark, may, pass_turn, play, read, rows, safe, score
from tests.helper import string, told, turns, undo

AREA = 0
LAND = 1
BEYOND = ((-1, 0), (0, -1), (3, 0), (0, 3), (LEAST, 0), (0, LEAST), (MOST, 0), (0, MOST))

# Black owns the left column, white the right one.
WALLS = """
.XO.
.XO.
.XO.
.XO.
"""


class Mark(unittest.TestCase):
    def marked(self, *calls):
        """Whether the black stone of this board is marked behind the calls: then white owns all else."""
        told = last(*laid("X.. ... ..O"), *calls, score(AREA))
        return told == [0, 0, 9, 0, -18]

    def test_places_beyond(self):
        for x, y in BEYOND:
            self.assertEqual(last(begin(3), mark(x, y)), [-2], (x, y))

    def test_nothing_is_there(self):
        self.assertEqual(last(begin(3), mark(1, 1)), [-1])

    def test_it_answers_0(self):
        self.assertEqual(ask(*laid("XO. ... ..."), mark(0, 0), mark(0, 0), mark(1, 0))[-3:], [[0], [0], [0]])

    def test_marked_and_marked_again(self):
        self.assertFalse(self.marked())
        self.assertTrue(self.marked(mark(0, 0)))
        self.assertFalse(self.marked(mark(0, 0), mark(0, 0)))
        self.assertTrue(self.marked(mark(0, 0), mark(0, 0), mark(0, 0)))

    def test_all_of_the_string(self):
        calls = laid("XX. X.. ..O")
        self.assertEqual(last(*calls, mark(1, 0), score(AREA)), [0, 0, 9, 0, -18])
        self.assertEqual(last(*calls, mark(1, 0), mark(0, 1), score(AREA)), [0, 3, 1, 5, 4])

    def test_other_strings_of_the_colour_are_not(self):
        self.assertEqual(last(*laid("X.X ... ..O"), mark(0, 0), score(AREA)), [0, 1, 1, 7, 0])

    def test_both_colours_and_several_strings(self):
        self.assertEqual(last(*laid("X.O ... X.O"), mark(0, 0), mark(2, 0), score(AREA)), [0, 1, 1, 7, 0])
        self.assertEqual(last(*laid("X.O ... X.O"), mark(0, 0), mark(0, 2), score(AREA)), [0, 0, 9, 0, -18])

    def test_the_board_stays(self):
        calls = laid("X.. ... ..O")
        self.assertEqual(ask(*calls, mark(0, 0), look(0, 0), rows(), string(0, 0))[-3], [1])
        self.assertEqual(last(*calls, mark(0, 0), rows()), last(*calls, rows()))
        self.assertEqual(last(*calls, mark(0, 0), play(WHITE, 0, 0)), [-1])
        self.assertEqual(last(*calls, mark(0, 0), may(WHITE)), last(*calls, may(WHITE)))

    def test_asking_leaves_the_marks(self):
        asked = [
            look(0, 0), rows(), string(0, 0), may(BLACK), score(AREA), score(LAND), safe(WHITE), caught(0, 0, 3), told(),
            turns(),
        ]
        self.assertTrue(self.marked(mark(0, 0), *asked))

    def test_each_call_that_is_done_clears_them(self):
        self.assertFalse(self.marked(mark(0, 0), lay(BLACK, 0, 0)))
        self.assertFalse(self.marked(mark(0, 0), lay(0, 1, 1)))
        self.assertFalse(self.marked(mark(0, 0), play(BLACK, 1, 0)))
        self.assertFalse(self.marked(mark(0, 0), play(WHITE, 2, 1)))
        self.assertFalse(self.marked(mark(0, 0), pass_turn(BLACK)))
        self.assertFalse(self.marked(pass_turn(BLACK), mark(0, 0), undo()))
        self.assertFalse(self.marked(mark(0, 0), begin(3), lay(BLACK, 0, 0), lay(WHITE, 2, 2)))
        self.assertFalse(self.marked(mark(0, 0), read("(;SZ[3]AB[aa]AW[cc])")))

    def test_undone_turns_do_not_bring_them_back(self):
        self.assertFalse(self.marked(mark(0, 0), play(BLACK, 1, 0), undo()))
        self.assertFalse(self.marked(mark(0, 0), pass_turn(BLACK), undo()))

    def test_marks_can_be_made_anew(self):
        self.assertTrue(self.marked(mark(0, 0), pass_turn(BLACK), mark(0, 0)))
        self.assertTrue(self.marked(mark(0, 0), read("(;SZ[3]AB[aa]AW[cc])"), mark(0, 0)))

    def test_each_call_that_is_refused_leaves_them(self):
        self.assertTrue(self.marked(mark(0, 0), begin(1), begin(3, 2001), begin(3, 0, 2)))
        self.assertTrue(self.marked(mark(0, 0), lay(3, 0, 0), lay(BLACK, 3, 0)))
        self.assertTrue(self.marked(mark(0, 0), play(BLACK, 0, 0), play(3, 1, 1), play(BLACK, 0, 3)))
        self.assertTrue(self.marked(mark(0, 0), pass_turn(0), pass_turn(3)))
        self.assertTrue(self.marked(mark(0, 0), undo()))
        self.assertTrue(self.marked(mark(0, 0), mark(1, 1), mark(0, 3), score(2), may(0), safe(3), caught(0, 0, 41)))
        records = ("", "(;SZ[1])", "(;SZ[3];B[aa];B[aa])", "(;" + ";B[]" * 1001 + ")")
        refused = [read(record) for record in records] + [read("(;)", 2)]
        self.assertEqual(ask(*refused), [[-7], [-8], [-9], [-6], [-2]])
        for call in refused:
            self.assertTrue(self.marked(mark(0, 0), call))

    def test_refused_behind_a_turn(self):
        # White's first stone is marked; what is refused by -6, -3 and -4 leaves it so.
        calls = laid(".X.. X.X. .X.. ....") + [play(WHITE, 3, 3), mark(3, 3)]
        marked = [0, 16, 0, 0, 32]
        self.assertEqual(last(*calls, score(AREA)), marked)
        self.assertEqual(ask(*calls, lay(BLACK, 3, 0), score(AREA))[-2:], [[-6], marked])
        self.assertEqual(ask(*calls, play(WHITE, 1, 1), score(AREA))[-2:], [[-3], marked])
        ko = laid(".XO. X.XO .XO. ....") + [play(WHITE, 1, 1), mark(1, 1)]
        self.assertEqual(ask(*ko, score(AREA), play(BLACK, 2, 1), score(AREA))[-2:], [[-4], last(*ko, score(AREA))])

    def test_laying_without_a_breath_leaves_them(self):
        calls = laid(".X. X.. ...") + [mark(1, 0)]
        self.assertEqual(ask(*calls, lay(WHITE, 0, 0), score(AREA))[-2:], [[-3], [0, 9, 0, 0, 18]])
        self.assertEqual(ask(*calls, mark(0, 1), lay(WHITE, 0, 0), score(AREA))[-2:], [[-3], [0, 0, 0, 9, 0]])

    def test_1000_turns_leave_them(self):
        calls = laid("X.. ... ..O") + [pass_turn(BLACK)] * 1000 + [mark(0, 0)]
        self.assertEqual(ask(*calls, pass_turn(BLACK), play(BLACK, 1, 1), score(AREA))[-3:], [[-6], [-6], [0, 0, 9, 0, -18]])


class Score(unittest.TestCase):
    def test_how_beyond(self):
        for how in (-1, 2, LEAST, MOST):
            self.assertEqual(last(score(how)), [-2], how)

    def test_an_empty_board(self):
        # Nobody is beside the empty places.
        self.assertEqual(ask(score(AREA), score(LAND)), [[0, 0, 0, 361, 0]] * 2)

    def test_both_own_some(self):
        self.assertEqual(last(*laid(WALLS), score(AREA)), [0, 8, 8, 0, 0])
        self.assertEqual(last(*laid(WALLS), score(LAND)), [0, 4, 4, 0, 0])

    def test_parts_that_both_are_beside(self):
        picture = "X.O. XXO. OOO. ...."
        self.assertEqual(last(*laid(picture), score(AREA)), [0, 3, 12, 1, -18])
        self.assertEqual(last(*laid(picture), score(LAND)), [0, 0, 7, 1, -14])

    def test_one_colour_owns_all(self):
        self.assertEqual(last(*laid("... .X. ..."), score(AREA)), [0, 9, 0, 0, 18])
        self.assertEqual(last(*laid("... .X. ..."), score(LAND)), [0, 8, 0, 0, 16])
        self.assertEqual(last(*laid("... .O. ..."), score(LAND)), [0, 0, 8, 0, -16])

    def test_komi(self):
        self.assertEqual(last(*laid(WALLS, komi=13), score(AREA)), [0, 8, 8, 0, -13])
        self.assertEqual(last(*laid(WALLS, komi=-13), score(AREA)), [0, 8, 8, 0, 13])
        self.assertEqual(last(*laid("... .X. ...", komi=7), score(LAND)), [0, 8, 0, 0, 9])
        self.assertEqual(last(begin(2, 2000), score(LAND)), [0, 0, 0, 4, -2000])
        self.assertEqual(last(begin(2, -2000), score(LAND)), [0, 0, 0, 4, 2000])

    def test_komi_that_was_read(self):
        self.assertEqual(last(read("(;SZ[2]KM[9999.5])"), score(AREA)), [0, 0, 0, 4, -19999])
        self.assertEqual(last(read("(;SZ[2]KM[-9999.5])"), score(AREA)), [0, 0, 0, 4, 19999])
        self.assertEqual(last(read("(;SZ[2]KM[6.5])"), score(AREA)), [0, 0, 0, 4, -13])

    def test_dead_stones_of_white(self):
        picture = ".X.O .XO. OX.. .X.."
        calls = laid(picture) + [mark(0, 2), mark(3, 0), mark(2, 1)]
        self.assertEqual(last(*calls, score(AREA)), [0, 16, 0, 0, 32])
        # 12 places and 3 dead stones.
        self.assertEqual(last(*calls, score(LAND)), [0, 15, 0, 0, 30])

    def test_dead_stones_of_black(self):
        calls = laid("X.O. .XO. ..O. .XO.") + [mark(0, 0), mark(1, 1), mark(1, 3)]
        self.assertEqual(last(*calls, score(AREA)), [0, 0, 16, 0, -32])
        self.assertEqual(last(*calls, score(LAND)), [0, 0, 15, 0, -30])

    def test_dead_stones_of_both(self):
        calls = laid(".XO. OXOX .XO. .XO.") + [mark(0, 1), mark(3, 1)]
        self.assertEqual(last(*calls, score(AREA)), [0, 8, 8, 0, 0])
        self.assertEqual(last(*calls, score(LAND)), [0, 5, 5, 0, 0])

    def test_without_marks_they_count(self):
        calls = laid(".XO. OXOX .XO. .XO.")
        self.assertEqual(last(*calls, score(AREA)), [0, 5, 5, 6, 0])
        self.assertEqual(last(*calls, score(LAND)), [0, 0, 0, 6, 0])

    def test_all_are_dead(self):
        calls = laid("X.O ... ...") + [mark(0, 0), mark(2, 0)]
        self.assertEqual(last(*calls, score(AREA)), [0, 0, 0, 9, 0])
        self.assertEqual(last(*calls, score(LAND)), [0, 1, 1, 9, 0])

    def test_stones_that_were_taken(self):
        calls = laid("OX. OX. ..O") + [play(BLACK, 0, 2)]
        self.assertEqual(ask(*calls)[-1], [2])
        # Two stones taken, two places owned; the rest is beside both.
        self.assertEqual(last(*calls, score(LAND)), [0, 4, 0, 3, 8])
        self.assertEqual(last(*calls, score(AREA)), [0, 5, 1, 3, 8])

    def test_stones_that_white_took(self):
        calls = laid("XO. XO. ..X") + [play(WHITE, 0, 2)]
        self.assertEqual(last(*calls, score(LAND)), [0, 0, 4, 3, -8])

    def test_taken_and_dead(self):
        calls = laid("OX. OX. ..O") + [play(BLACK, 0, 2), mark(2, 2)]
        # Two taken, one dead, and all that is empty.
        self.assertEqual(last(*calls, score(LAND)), [0, 9, 0, 0, 18])

    def test_stones_that_took_themselves(self):
        white = laid("O.X XX. ...", suicide=1) + [play(WHITE, 1, 0)]
        self.assertEqual(ask(*white)[-1], [2])
        self.assertEqual(last(*white, score(LAND)), [0, 8, 0, 0, 16])
        self.assertEqual(last(*white, score(AREA)), [0, 9, 0, 0, 18])
        black = laid("X.O OO. ...", suicide=1) + [play(BLACK, 1, 0)]
        self.assertEqual(last(*black, score(LAND)), [0, 0, 8, 0, -16])

    def test_a_turn_undone_has_taken_nothing(self):
        calls = laid("OX. OX. ..O") + [play(BLACK, 0, 2), undo()]
        self.assertEqual(last(*calls, score(LAND)), [0, 0, 0, 4, 0])

    def test_begin_forgets_what_was_taken(self):
        calls = laid("OX. OX. ..O") + [play(BLACK, 0, 2), begin(3)]
        self.assertEqual(last(*calls, score(LAND)), [0, 0, 0, 9, 0])

    def test_taken_in_a_game_that_was_read(self):
        self.assertEqual(last(read("(;SZ[3]AW[aa][ab]AB[ba][bb]AW[cc];B[ac])"), score(LAND)), [0, 4, 0, 3, 8])
        self.assertEqual(last(read("(;SZ[3]AW[aa]AB[ca][ab][bb];W[ba])", 1), score(LAND)), [0, 8, 0, 0, 16])

    def test_laid_over_is_not_taken(self):
        self.assertEqual(last(*laid("X.. ... ..."), lay(0, 0, 0), score(LAND)), [0, 0, 0, 9, 0])

    def test_several_turns_that_took(self):
        calls = [begin(3, 1)]
        # Black takes one, white takes one, in opposite corners.
        calls += [play(WHITE, 0, 0), play(BLACK, 1, 0), play(BLACK, 0, 1)]
        calls += [play(BLACK, 2, 2), play(WHITE, 2, 1), play(WHITE, 1, 2)]
        self.assertEqual(ask(*calls)[3], [1])
        self.assertEqual(ask(*calls)[6], [1])
        # Each owns its corner and has taken one; the other places are beside both.
        self.assertEqual(last(*calls, score(LAND)), [0, 2, 2, 3, -1])
        self.assertEqual(last(*calls, score(AREA)), [0, 3, 3, 3, -1])


if __name__ == "__main__":
    unittest.main()
