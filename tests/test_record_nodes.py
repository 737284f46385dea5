"""Point 11: what the nodes of a record's line say."""

import unittest

from tests.helper import ask, board, last, read, rows, score, told, told_text, turns


class Checked(unittest.TestCase):
    def are_wrong(self, *records):
        for record in records:
            self.assertEqual(last(read(record)), [-8], record)

    def komi(self, record):
        """In half points, by what score answers of an empty board."""
        answers = ask(read(record), score(0))
        self.assertEqual(answers[0], [0], record)
        return -answers[1][-1]

    def size(self, record):
        answers = ask(read(record), rows())
        self.assertEqual(answers[0], [0], record)
        return round(answers[1][0] ** 0.5)


class GameNumber(Checked):
    def test_1_or_not_there(self):
        self.assertEqual(ask(read("(;GM[1])"), read("(;)")), [[0], [0]])

    def test_another(self):
        self.are_wrong("(;GM[2])", "(;GM[0])", "(;GM[])", "(;GM[11])", "(;GM[a])", "(;GM[-1])", "(;GM[1.0])")

    def test_twice_and_two_values(self):
        self.are_wrong("(;GM[1]GM[1])", "(;GM[1][1])", "(;GM[1]C[]GM[1])", "(;GM[1][])")

    def test_in_another_node_it_does_not_matter(self):
        self.assertEqual(last(read("(;;GM[2]GM[3][4])")), [0])


class Size(Checked):
    def test_each_size(self):
        for size in range(2, 20):
            self.assertEqual(self.size("(;SZ[%d])" % size), size)

    def test_19_without_it(self):
        self.assertEqual(self.size("(;)"), 19)

    def test_1_to_4_figures(self):
        self.assertEqual([self.size(record) for record in ("(;SZ[9])", "(;SZ[09])", "(;SZ[009])", "(;SZ[0013])")],
                         [9, 9, 9, 13])
        self.are_wrong("(;SZ[])", "(;SZ[00009])", "(;SZ[00019])")

    def test_sizes_that_are_none(self):
        self.are_wrong("(;SZ[0])", "(;SZ[1])", "(;SZ[20])", "(;SZ[21])", "(;SZ[100])", "(;SZ[9999])", "(;SZ[0001])")

    def test_other_signs(self):
        self.are_wrong("(;SZ[a])", "(;SZ[9a])", "(;SZ[a9])", "(;SZ[-9])", "(;SZ[+9])", "(;SZ[9.0])", "(;SZ[19:19])")
        # The signs on either side of the figures.
        self.are_wrong("(;SZ[1/])", "(;SZ[1:])", "(;SZ[/])", "(;SZ[:])")

    def test_twice_and_two_values(self):
        self.are_wrong("(;SZ[9]SZ[9])", "(;SZ[9][9])", "(;SZ[9]C[]SZ[19])")

    def test_in_another_node_it_does_not_matter(self):
        self.assertEqual(self.size("(;SZ[9];SZ[1]SZ[13][x])"), 9)


class Komi(Checked):
    def test_0_without_it(self):
        self.assertEqual(self.komi("(;)"), 0)

    def test_1_to_4_figures(self):
        for value, komi in (("0", 0), ("7", 14), ("07", 14), ("0007", 14), ("9999", 19998), ("1001", 2002)):
            self.assertEqual(self.komi("(;KM[%s])" % value), komi)
        self.are_wrong("(;KM[])", "(;KM[00007])", "(;KM[10000])", "(;KM[00000.5])", "(;KM[-00001])")

    def test_with_a_minus(self):
        for value, komi in (("-7", -14), ("-0", 0), ("-0.0", 0), ("-0.5", -1), ("-6.5", -13), ("-9999.5", -19999)):
            self.assertEqual(self.komi("(;KM[%s])" % value), komi)

    def test_with_a_point(self):
        for value, komi in (("6.5", 13), ("6.0", 12), ("0.5", 1), ("0.0", 0), ("9999.5", 19999), ("6.50", 13),
                            ("6.00", 12), ("6.5000000", 13), ("6.0000000", 12), ("0006.5", 13)):
            self.assertEqual(self.komi("(;KM[%s])" % value), komi, value)
        self.assertEqual(self.komi("(;KM[6.5%s])" % ("0" * 20000)), 13)

    def test_wrong_forms(self):
        for value in ("6.", ".5", ".", "-", "--6", "-.5", "6.1", "6.25", "6.05", "6.55", "6.51", "6.005", "6.5.0",
                      "6..5", "+6", "6-", "6.-5", "6,5", "a", "6a", "6.5a", "6.50a", "1e1", "6.5 ", "-.0", "5.-", "6/", "6:",
                      "6.5/", "6.4", "6.6", "6./", "6.10", "6.15", "6.90"):
            self.are_wrong("(;KM[%s])" % value)

    def test_twice_and_two_values(self):
        self.are_wrong("(;KM[6]KM[6])", "(;KM[6][6])", "(;KM[6][])")

    def test_in_another_node_it_does_not_matter(self):
        self.assertEqual(self.komi("(;KM[6];KM[x]KM[7][8])"), 12)


class Laid(Checked):
    def laid(self, record):
        answers = ask(read(record), rows())
        self.assertEqual(answers[0], [0], record)
        return answers[1]

    def test_black_and_white(self):
        self.assertEqual(self.laid("(;SZ[3]AB[aa][cb]AW[bc])"), board("X.. ..X .O."))

    def test_the_column_stands_first(self):
        self.assertEqual(self.laid("(;SZ[3]AB[ca])"), board("..X ... ..."))

    def test_ahead_of_the_size(self):
        self.assertEqual(self.laid("(;AB[ca]SZ[3])"), board("..X ... ..."))

    def test_several_times(self):
        self.assertEqual(self.laid("(;SZ[3]AB[aa]AW[ba]AB[ac][bb]AW[bc])"), board("XO. .X. XO."))

    def test_the_last_place(self):
        self.assertEqual(self.laid("(;AB[ss])")[-1], 1)
        self.assertEqual(self.laid("(;SZ[2]AW[bb])"), board(".. .O"))

    def test_beyond_the_size(self):
        self.are_wrong("(;AB[st])", "(;AB[ts])", "(;AB[tt])", "(;SZ[3]AB[da])", "(;SZ[3]AW[ad])", "(;SZ[3]AB[aa][zz])")

    def test_no_places(self):
        for value in ("", "a", "aaa", "AA", "aA", "Aa", "a1", "1a", "`a", "a`", "{a", "a{", "aa:bb", " aa", "\xe1a"):
            self.are_wrong("(;SZ[9]AB[%s])" % value, "(;SZ[9]AW[%s])" % value, "(;SZ[9]AB[bb][%s])" % value)

    def test_a_place_twice(self):
        self.are_wrong("(;SZ[3]AB[aa][aa])", "(;SZ[3]AB[aa]AB[aa])", "(;SZ[3]AB[aa]AW[aa])", "(;SZ[3]AW[aa]AB[aa])",
                       "(;SZ[3]AW[bb][cc][bb])")

    def test_a_string_without_a_breath(self):
        self.are_wrong("(;SZ[3]AW[aa]AB[ba][ab])", "(;SZ[3]AB[aa]AW[ba][ab])", "(;SZ[2]AB[aa][ab][ba][bb])")
        self.are_wrong("(;SZ[3]AW[aa][ba]AB[ab][bb][ca])")
        # The order doesn't matter, only what is laid in the end.
        self.assertEqual(self.laid("(;SZ[3]AB[ba][ab])"), board(".X. X.. ..."))

    def test_no_turn_and_nothing_taken_away_in_the_first_node(self):
        self.are_wrong("(;B[aa])", "(;W[aa])", "(;AE[aa])", "(;B[])", "(;W[tt])", "(;AE[])", "(;AB[aa]AE[aa])",
                       "(;B[aa];W[bb])", "(;B[zz])")

    def test_in_another_node(self):
        self.are_wrong("(;;AB[aa])", "(;;AW[aa])", "(;;AE[aa])", "(;;B[aa]AB[bb])", "(;;C[]AE[])", "(;;;;AW[aa])")
        self.are_wrong("(;(;AB[aa]))", "(;;B[aa](;AE[bb]))")


class Turns(Checked):
    def turns(self, record):
        answers = ask(read(record), turns())
        self.assertEqual(answers[0], answers[1][:1], record)
        return answers[1][1:]

    def test_either_colour_in_any_order(self):
        self.assertEqual(self.turns("(;SZ[9];B[aa];B[ba];W[ca];W[ai];B[ii])"),
                         [1, 0, 0, 1, 1, 0, 2, 2, 0, 2, 72, 0, 1, 80, 0])

    def test_passes(self):
        self.assertEqual(self.turns("(;SZ[9];B[];W[])"), [1, -1, 0, 2, -1, 0])
        self.assertEqual(self.turns("(;SZ[9];B[tt];W[tt])"), [1, -1, 0, 2, -1, 0])
        self.assertEqual(self.turns("(;SZ[19];B[tt];W[];B[ss])"), [1, -1, 0, 2, -1, 0, 1, 360, 0])
        self.assertEqual(self.turns("(;SZ[2];W[tt])"), [2, -1, 0])

    def test_nodes_without_a_turn(self):
        self.assertEqual(self.turns("(;SZ[9];;B[aa];C[x];;W[bb];)"), [1, 0, 0, 2, 10, 0])

    def test_both_in_one_node(self):
        self.are_wrong("(;;B[aa]W[bb])", "(;;W[bb]B[aa])", "(;;B[]W[])", "(;;B[aa]C[]W[bb])")

    def test_twice_in_one_node(self):
        self.are_wrong("(;;B[aa]B[bb])", "(;;W[aa]W[bb])", "(;;B[]B[])", "(;;B[aa]C[]B[bb])")

    def test_two_values(self):
        self.are_wrong("(;;B[aa][bb])", "(;;W[aa][bb])", "(;;B[][])", "(;;B[aa][])")

    def test_beyond_the_size(self):
        self.are_wrong("(;SZ[9];B[ja])", "(;SZ[9];W[aj])", "(;;B[ta])", "(;;B[at])", "(;;B[ts])", "(;;B[st])",
                       "(;SZ[9];B[ss])", "(;SZ[2];B[ca])")

    def test_no_places(self):
        for value in ("a", "aaa", "AA", "TT", "t", "ttt", "a1", "`a", "a`", " ", "aa ", "tT", "\0\0", "pass"):
            self.are_wrong("(;;B[%s])" % value, "(;;W[%s])" % value)

    def test_wrong_at_the_end_of_the_line(self):
        self.are_wrong("(;" + ";B[]" * 500 + ";B[aa][bb])", "(;SZ[9];B[aa](;W[bb](;B[zz])))")

    def test_other_names_do_not_matter(self):
        record = "(;BB[aa]WW[zz]ABC[x]A[]C[]FF[9]FF[8][7]AP[x]RU[y]BR[]WR[];N[x]N[y]B[aa]BL[1]BM[2][3]AN[]TB[aa]TW[bb])"
        self.assertEqual(ask(read(record), told()), [[1], ask(read("(;;B[aa])"), told())[1]])

    def test_the_names_order_does_not_matter(self):
        one = ask(read("(;GM[1]SZ[9]KM[6.5]AB[aa]AW[bb];C[]B[cc])"), told())
        other = ask(read("(;AW[bb]KM[6.5]AB[aa]SZ[9]GM[1];B[cc]C[])"), told())
        self.assertEqual(one, other)
        self.assertEqual(told_text(one[1]), "(;GM[1]FF[4]SZ[9]KM[6.5]AB[aa]AW[bb];B[cc])")


if __name__ == "__main__":
    unittest.main()
