"""Point 12: read and told."""

import unittest

from tests.helper import BLACK, LEAST, MOST, WHITE
from tests.helper import ask, begin, board, laid, last, lay, may, pass_turn, play, read, rows, score, told, told_text
from tests.helper import turns, undo

# Black takes at (0, 0), white at (2, 2).
TAKING = "(;SZ[3]KM[0.5];W[aa];B[ba];B[ab];B[cc];W[cb];W[bc])"
KO = "AB[ba][ab][cb][bc]AW[ca][db][cc]"


class Read(unittest.TestCase):
    def test_how_many_turns(self):
        self.assertEqual(ask(read("(;)"), read("(;;B[aa])"), read("(;;B[aa];C[];W[];B[tt])")), [[0], [1], [3]])

    def test_it_is_the_game_now(self):
        answers = ask(begin(5, 3), play(BLACK, 0, 0), read("(;SZ[3]AB[aa]AW[ba];B[cc])"), rows(), turns(), undo(), undo())
        self.assertEqual(answers[2:], [[1], board("XO. ... ..X"), [1, 1, 8, 0], [0], [-5]])

    def test_it_can_be_played_on(self):
        answers = ask(read(TAKING), rows(), play(WHITE, 1, 1), undo(), undo(), rows(), play(WHITE, 1, 2), turns())
        self.assertEqual(answers[0], [6])
        self.assertEqual(answers[1], board(".X. X.O .O."))
        self.assertEqual(answers[2:5], [[0], [0], [0]])
        self.assertEqual(answers[5], board(".X. X.O ..X"))
        self.assertEqual(answers[6], [1])
        self.assertEqual(answers[7], [6, 2, 0, 0, 1, 1, 0, 1, 3, 1, 1, 8, 0, 2, 5, 0, 2, 7, 1])

    def test_laying_on(self):
        self.assertEqual(ask(read("(;SZ[3]AB[aa])"), lay(WHITE, 1, 0), rows())[1:], [[0], board("XO. ... ...")])
        self.assertEqual(ask(read("(;SZ[3]AB[aa];B[])"), lay(WHITE, 1, 0))[1:], [[-6]])

    def test_its_suicide(self):
        suicide = "(;SZ[3]AW[aa]AB[ca][ab][bb];W[ba])"
        self.assertEqual(last(read(suicide, 0)), [-9])
        self.assertEqual(ask(read(suicide, 1), turns()), [[1], [1, 2, 1, 2]])
        for let, answer in ((0, [-3]), (1, [2])):
            self.assertEqual(last(read("(;SZ[3]AW[aa]AB[ca][ab][bb])", let), play(WHITE, 1, 0)), answer)
        # Whatever was let before.
        self.assertEqual(last(begin(3, 0, 1), read(suicide, 0)), [-9])
        self.assertEqual(last(begin(3, 0, 0), read(suicide, 1)), [1])

    def test_its_boards_for_boards_that_have_been(self):
        answers = ask(read("(;SZ[4]%s;W[bb])" % KO), play(BLACK, 2, 1), may(BLACK))
        self.assertEqual(answers[:2], [[1], [-4]])
        self.assertNotIn(6, answers[2][1:])

    def test_boards_of_the_game_before_have_not_been(self):
        before = laid(".XO. X.XO .XO. ....") + [play(WHITE, 1, 1)]
        answers = ask(*before, read("(;SZ[4]AB[ba][ab][bc]AW[bb][ca][db][cc])"), play(BLACK, 2, 1))
        self.assertEqual(answers[-2:], [[0], [1]])

    def test_turns_that_can_not_be_made(self):
        for record in (
            "(;SZ[3];B[aa];B[aa])",
            "(;SZ[3];B[aa];W[aa])",
            "(;SZ[3]AB[aa];B[aa])",
            "(;SZ[3]AB[ba][ab];W[aa])",
            "(;SZ[4]%s;W[bb];B[cb])" % KO,
            "(;SZ[4]%s;W[bb];B[];W[];B[cb])" % KO,
            "(;SZ[3];B[aa];B[aa];W[bb];W[cc])",
        ):
            self.assertEqual(last(read(record)), [-9], record)

    def test_one_stone_alone_that_takes_itself(self):
        # The board would be the one before, so it is refused where suicide is let too.
        self.assertEqual(last(read("(;SZ[3]AB[ba][ab];W[aa])", 1)), [-9])

    def test_turns_that_take_and_make_room(self):
        self.assertEqual(last(read("(;SZ[3]AB[ba]AW[aa];B[ab];W[aa])")), [-9])
        self.assertEqual(last(read("(;SZ[3]AB[ba]AW[aa];B[ab];B[aa])")), [2])

    def test_1000_turns_and_1001(self):
        self.assertEqual(last(read("(;" + ";B[]" * 1000 + ")")), [1000])
        self.assertEqual(last(read("(;" + ";B[]" * 1001 + ")")), [-6])
        self.assertEqual(last(read("(;" + ";W[tt]" * 999 + ";;;B[aa])")), [1000])
        self.assertEqual(last(read("(;" + ";W[tt]" * 999 + ";B[aa];B[bb])")), [-6])

    def test_nodes_without_a_turn_are_not_counted(self):
        self.assertEqual(last(read("(;" + ";" * 3000 + ";B[]" * 1000 + ";C[]" * 1000 + ")")), [1000])

    def test_turns_off_the_line_are_not_counted(self):
        self.assertEqual(last(read("(;" + ";B[]" * 999 + "(;B[])(;B[];B[];B[]))")), [1000])

    def test_the_game_behind_1000_turns(self):
        answers = ask(read("(;" + ";B[]" * 1000 + ")"), pass_turn(BLACK), play(BLACK, 0, 0), undo(), play(BLACK, 0, 0))
        self.assertEqual(answers, [[1000], [-6], [-6], [0], [0]])

    def test_wrong_suicide(self):
        for suicide in (-1, 2, LEAST, MOST):
            self.assertEqual(last(read("(;)", suicide)), [-2], suicide)

    def test_more_bytes_than_there_may_be(self):
        longest = "(;C[" + "x" * (65536 - 6) + "])"
        self.assertEqual(len(longest), 65536)
        self.assertEqual(last(read(longest)), [0])
        self.assertEqual(last(read(longest + " ")), [-2])
        self.assertEqual(last(read("x" * 65536)), [-7])
        self.assertEqual(last(read("x" * 65537)), [-2])

    def test_of_several_refusals_the_first_told(self):
        no_record = "(;SZ[1];B[aa];B[aa]" + ";B[]" * 1001
        wrong_nodes = no_record + ")"
        wrong_turn = "(;;B[aa];B[aa]" + ";B[]" * 1001 + ")"
        late_wrong_turn = "(;" + ";B[]" * 1001 + ";B[aa];B[aa])"
        late_wrong_node = "(;;B[aa];B[aa]" + ";B[]" * 1001 + ";AE[aa])"
        too_many = "(;" + ";B[]" * 1001 + ")"
        for record, suicide, refusal in (
            (no_record, 2, -2), (wrong_nodes, 2, -2), (wrong_turn, -1, -2), (too_many, 2, -2),
            (no_record, 0, -7), (wrong_nodes, 0, -8), (late_wrong_node, 0, -8), (wrong_turn, 0, -9),
            (late_wrong_turn, 0, -9), (too_many, 0, -6), ("(;SZ[1](;)(;)", 0, -7), ("(;;B[aa];B[aa](;)(;B))", 1, -7),
        ):
            self.assertEqual(last(read(record, suicide)), [refusal], (record[:30], suicide))

    def test_nothing_changes_behind_a_refusal(self):
        before = laid("XO. .X. ...", komi=13, suicide=1) + [play(WHITE, 2, 2), pass_turn(BLACK)]
        asked = [rows(), turns(), told(), score(1), may(BLACK), may(WHITE), undo(), undo(), undo(), lay(BLACK, 0, 2)]
        expected = ask(*before, *asked)[len(before):]
        for record, suicide in (
            ("(;)", 2), ("(;SZ[5];B[aa]", 0), ("(;SZ[5]KM[7]GM[2];B[aa])", 0), ("(;SZ[5];B[aa];B[aa])", 0),
            ("(;SZ[5]" + ";B[]" * 1001 + ")", 0),
        ):
            answers = ask(*before, read(record, suicide), *asked)
            self.assertLess(answers[len(before)][0], 0)
            self.assertEqual(answers[len(before) + 1:], expected, record[:30])

    def test_one_record_behind_another(self):
        answers = ask(read("(;SZ[3];B[aa])"), read("(;SZ[3];B[aa])"), rows(), read("(;SZ[2])"), rows())
        self.assertEqual(answers, [[1], [1], board("X.. ... ..."), [0], [4, 0, 0, 0, 0]])


class Told(unittest.TestCase):
    def told(self, *calls):
        return told_text(last(*calls, told()))

    def test_a_new_game(self):
        self.assertEqual(self.told(), "(;GM[1]FF[4]SZ[19]KM[0])")

    def test_how_many_bytes_and_these(self):
        text = "(;GM[1]FF[4]SZ[2]KM[0])"
        self.assertEqual(last(begin(2), told()), [len(text)] + [ord(sign) for sign in text])

    def test_komi(self):
        for komi, text in (
            (0, "0"), (1, "0.5"), (2, "1"), (13, "6.5"), (14, "7"), (-1, "-0.5"), (-2, "-1"), (-3, "-1.5"), (-14, "-7"),
            (20, "10"), (200, "100"), (2000, "1000"), (-2000, "-1000"), (1999, "999.5"), (-1999, "-999.5"),
        ):
            self.assertEqual(self.told(begin(9, komi)), "(;GM[1]FF[4]SZ[9]KM[%s])" % text)

    def test_komi_that_was_read(self):
        for read_text, text in (
            ("9999.5", "9999.5"), ("-9999.50", "-9999.5"), ("0006.500", "6.5"), ("-0", "0"), ("-0.0", "0"), ("7.000", "7"),
            ("-0.5", "-0.5"), ("0010", "10"),
        ):
            self.assertEqual(self.told(read("(;SZ[9]KM[%s])" % read_text)), "(;GM[1]FF[4]SZ[9]KM[%s])" % text)

    def test_stones_that_were_laid(self):
        self.assertEqual(self.told(*laid("..X O.. X.O")), "(;GM[1]FF[4]SZ[3]KM[0]AB[ca][ac]AW[ab][cc])")
        self.assertEqual(self.told(*laid("..X ... ...")), "(;GM[1]FF[4]SZ[3]KM[0]AB[ca])")
        self.assertEqual(self.told(*laid("... O.. ...")), "(;GM[1]FF[4]SZ[3]KM[0]AW[ab])")

    def test_rising_by_rows(self):
        calls = [begin(5), lay(BLACK, 0, 4), lay(BLACK, 4, 0), lay(BLACK, 2, 2), lay(BLACK, 1, 2)]
        self.assertEqual(self.told(*calls), "(;GM[1]FF[4]SZ[5]KM[0]AB[ea][bc][cc][ae])")

    def test_laid_and_laid_over(self):
        calls = [begin(3), lay(BLACK, 0, 0), lay(WHITE, 0, 0), lay(BLACK, 1, 1), lay(0, 1, 1)]
        self.assertEqual(self.told(*calls), "(;GM[1]FF[4]SZ[3]KM[0]AW[aa])")

    def test_turns(self):
        calls = [begin(9), play(BLACK, 2, 1), play(BLACK, 0, 8), play(WHITE, 8, 0), play(WHITE, 8, 8)]
        self.assertEqual(self.told(*calls), "(;GM[1]FF[4]SZ[9]KM[0];B[cb];B[ai];W[ia];W[ii])")

    def test_the_last_place_of_the_largest_board(self):
        self.assertEqual(self.told(play(WHITE, 18, 18)), "(;GM[1]FF[4]SZ[19]KM[0];W[ss])")

    def test_passes(self):
        calls = [begin(9), pass_turn(BLACK), pass_turn(WHITE), pass_turn(WHITE)]
        self.assertEqual(self.told(*calls), "(;GM[1]FF[4]SZ[9]KM[0];B[];W[];W[])")
        self.assertEqual(self.told(read("(;SZ[9];B[tt])")), "(;GM[1]FF[4]SZ[9]KM[0];B[])")

    def test_the_board_that_was_laid_not_the_one_now(self):
        calls = laid("OX. ... ...") + [play(BLACK, 0, 1)]
        self.assertEqual(self.told(*calls), "(;GM[1]FF[4]SZ[3]KM[0]AB[ba]AW[aa];B[ab])")

    def test_undone_turns_are_not_told(self):
        calls = [begin(9), play(BLACK, 0, 0), pass_turn(WHITE), undo(), undo(), play(WHITE, 1, 1)]
        self.assertEqual(self.told(*calls), "(;GM[1]FF[4]SZ[9]KM[0];W[bb])")

    def test_what_is_told_is_read_again_as_the_same_game(self):
        games = (
            [],
            [begin(2, -1999)],
            laid("XO. .X. ..O", komi=13) + [play(WHITE, 2, 1), pass_turn(BLACK), play(BLACK, 0, 2)],
            laid("O.X XX. ...", suicide=1) + [play(WHITE, 1, 0), play(WHITE, 0, 0)],
            [read(TAKING)],
            [read("(;KM[-9999.5](;B[ss];W[])(;B[aa]))")],
            [pass_turn(BLACK)] * 1000,
            [play(1 + (x + y) % 2, x, y) for y in range(18) for x in range(19) if (x + 2 * y) % 3],
        )
        for number, calls in enumerate(games):
            asked = [rows(), turns(), told(), score(0), score(1), may(BLACK), may(WHITE)]
            suicide = 1 if number == 3 else 0
            expected = ask(*calls, *asked)[len(calls):]
            again = ask(read(told_text(expected[2]), suicide), *asked)
            self.assertEqual(again[1:], expected, number)
            self.assertEqual(again[0], expected[1][:1], number)

    def test_asking_changes_nothing(self):
        answers = ask(read(TAKING), rows(), told(), told(), rows(), turns())
        self.assertEqual(answers[1:3], [answers[4], answers[3]])
        self.assertEqual(answers[5][0], 6)


if __name__ == "__main__":
    unittest.main()
