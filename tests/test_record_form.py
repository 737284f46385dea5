"""Point 10: what a record is, byte by byte."""

import unittest

from tests.helper import ask, last, laid, look, pass_turn, read, rows, told, told_text, turns

NO_RECORD = [-7]
BLANKS = (" ", "\t", "\n", "\r", " \t\r\n ")


def nested(trees):
    return "(;" * trees + ")" * trees


class Checked(unittest.TestCase):
    def are_records(self, *records):
        for record in records:
            self.assertGreaterEqual(last(read(record))[0], 0, record)

    def are_none(self, *records):
        for record in records:
            self.assertEqual(last(read(record)), NO_RECORD, record)


class Trees(Checked):
    def test_the_least_record(self):
        self.assertEqual(last(read("(;)")), [0])

    def test_the_empty_list_of_bytes(self):
        self.are_none("")

    def test_nothing_but_blanks(self):
        self.are_none(" ", "\n\n", " \t\r\n")

    def test_no_tree(self):
        self.are_none(";", ";B[aa]", ")", "a", "B[aa]", "[", "]")

    def test_no_node(self):
        self.are_none("()", "(())", "((;))", "(;()", "(;())", "( )", "(B[aa])")

    def test_a_tree_that_does_not_end(self):
        self.are_none("(", "(;", "(;B[aa]", "(;;", "(;(;)", "(;(;)(;)")

    def test_something_behind_the_tree(self):
        self.are_none("(;))", "(;)(;)", "(;);", "(;)a", "(;) x", "(;)\0", "(;)[", "(;)(")

    def test_something_ahead_of_the_tree(self):
        self.are_none("a(;)", ";(;)", "\0(;)", ")(;)", "x (;)")

    def test_trees_behind_one_another(self):
        self.are_records("(;(;)(;))", "(;(;(;)(;))(;)(;;))")

    def test_no_node_behind_a_tree(self):
        self.are_none("(;(;);)", "(;(;)B[aa])", "(;(;)(;);(;))")

    def test_the_line_goes_along_the_first_trees(self):
        record = "(;SZ[9];B[aa](;W[bb](;B[cc];W[dd](;B[ee])(;B[ff]))(;B[gg]))(;W[hh];B[ii]))"
        self.assertEqual(
            ask(read(record), turns()), [[5], [5, 1, 0, 0, 2, 10, 0, 1, 20, 0, 2, 30, 0, 1, 40, 0]]
        )

    def test_trees_off_the_line_are_read_for_their_form_alone(self):
        self.assertEqual(last(read("(;SZ[9](;B[aa])(;B[zz];AE[aa]B[]W[]))")), [1])
        self.are_none("(;SZ[9](;B[aa])(;B))", "(;SZ[9](;B[aa])(;b[aa]))", "(;(;)(;A[)", "(;(;)())")

    def test_40_trees_within_one_another(self):
        self.assertEqual(last(read(nested(40))), [0])
        self.assertEqual(last(read("(;" * 39 + "(;B[aa])" + ")" * 39)), [1])

    def test_41_trees_within_one_another(self):
        self.are_none(nested(41), nested(42), nested(200), nested(7000))
        self.are_none("(;(;)" + nested(40) + ")")
        self.assertEqual(last(read("(;(;)" + nested(39) + ")")), [0])

    def test_many_trees_that_do_not_lie_within_one_another(self):
        self.assertEqual(last(read("(;" + "(;)" * 5000 + ")")), [0])
        self.assertEqual(last(read("(;" + "(;(;))" * 2000 + ")")), [0])

    def test_long_runs_of_one_byte(self):
        for sign in "(;A[])\\ x":
            self.are_none(sign * 20000, "(;" + sign * 20000)


class Nodes(Checked):
    def test_nodes_without_properties(self):
        self.are_records("(;;;)", "(;;B[aa];;)")

    def test_names_of_1_to_8_capitals(self):
        self.are_records("(;C[])", "(;AAAAAAAA[])", "(;ABCDEFGH[]IJKLMNOP[]QRSTUVWX[]YZ[])")

    def test_names_of_more_than_8(self):
        self.are_none("(;AAAAAAAAA[])", "(;ABCDEFGHIJ[])", "(;C[]AAAAAAAAA[])", "(;C[];ABCDEFGHI[])")

    def test_no_name(self):
        self.are_none("(;[])", "(;[aa])", "(;C[];[])")

    def test_names_of_other_signs(self):
        for name in ("c", "Ab", "aB", "A1", "1", "A-", "@", "`", "A@", "A`", "A\0", "\xc4", "A\\", "\\A"):
            self.are_none("(;" + name + "[])")

    def test_the_capitals_at_either_end(self):
        self.are_records("(;A[])", "(;Z[])", "(;AZ[])")
        self.are_none("(;@[])", "(;[[])")

    def test_no_value(self):
        self.are_none("(;C)", "(;C;)", "(;C C[])", "(;C(;))", "(;B", "(;C[]D)")

    def test_a_blank_cuts_a_name(self):
        self.are_none("(;A B[aa])", "(;S Z[9])", "(;AAAA\nAAAA[])")

    def test_several_values(self):
        self.are_records("(;C[a][b][c])", "(;C[][][])", "(;C[a] [b]\n[c]D[])")

    def test_a_value_that_does_not_end(self):
        self.are_none("(;C[)", "(;C[", "(;C[a)", "(;C[](;D[)", "(;C[a]b])")

    def test_bytes_of_a_value_are_taken_as_they_stand(self):
        self.are_records("(;C[([;)(]D[B[aa])", "(;C[ \t\r\n])", "(;C[:])")
        every = [byte for byte in range(256) if byte not in (92, 93)]
        self.assertEqual(last(read([40, 59, 67, 91] + every + [93, 41])), [0])

    def test_blanks_within_a_value_count(self):
        for record in ("(;SZ[ 9])", "(;SZ[9 ])", "(;GM[1\n])", "(;KM[ 6])", "(;AB[a a])", "(;;B[ ])", "(;;B[aa\n])"):
            self.assertEqual(last(read(record)), [-8], record)


class StandingForItself(unittest.TestCase):
    def test_ahead_of_the_end_of_a_value(self):
        self.assertEqual(last(read("(;C[a\\]b])")), [0])
        self.assertEqual(last(read("(;C[\\]])")), [0])
        self.assertEqual(last(read("(;C[\\])")), NO_RECORD)
        self.assertEqual(last(read("(;C[a\\];B[aa])")), [0])

    def test_ahead_of_itself(self):
        self.assertEqual(last(read("(;C[\\\\])")), [0])
        self.assertEqual(last(read("(;C[\\\\]])")), NO_RECORD)
        self.assertEqual(last(read("(;C[\\\\\\])")), NO_RECORD)
        self.assertEqual(last(read("(;C[\\\\\\]])")), [0])

    def test_ahead_of_any_byte_it_is_gone(self):
        self.assertEqual(ask(read("(;SZ[\\9];B[\\aa];W[b\\b];B[\\c\\c];W[\\t\\t])"), turns()),
                         [[4], [4, 1, 0, 0, 2, 10, 0, 1, 20, 0, 2, -1, 0]])
        self.assertEqual(last(read("(;GM[\\1]KM[\\-\\6\\.\\5])"), told())[:1], [len("(;GM[1]FF[4]SZ[19]KM[-6.5])")])
        for byte in range(256):
            self.assertEqual(last(read([40, 59, 67, 91, 92, byte, 93, 41])), [0], byte)

    def test_the_byte_it_makes_stand_stays(self):
        # Two of them are one byte, and that is no place.
        self.assertEqual(last(read("(;;B[\\\\\\\\])")), [-8])
        self.assertEqual(last(read("(;;B[\\\\])")), [-8])
        self.assertEqual(last(read("(;;B[\\\n])")), [-8])
        self.assertEqual(last(read("(;;B[a\\\na])")), [-8])
        self.assertEqual(last(read("(;;B[\\]])")), [-8])

    def test_at_the_end_of_the_bytes(self):
        self.assertEqual(last(read("(;C[\\")), NO_RECORD)
        self.assertEqual(last(read("(;C[a]\\")), NO_RECORD)
        self.assertEqual(last(read("(;)\\")), NO_RECORD)

    def test_outside_of_a_value(self):
        for record in ("\\(;)", "(\\;)", "(;\\C[])", "(;C\\[])", "(;C[]\\)"):
            self.assertEqual(last(read(record)), NO_RECORD, record)


class Blanks(unittest.TestCase):
    # What may have blanks between, piece by piece.
    PIECES = [
        "(", ";", "SZ", "[9]", "AB", "[aa]", "[bb]", "KM", "[6.5]", ";", "W", "[cc]", "(", ";", "B", "[]", ")", "(", ";",
        "C", "[]", ")", ")",
    ]

    def same(self, record):
        self.assertEqual(ask(read(record), told(), turns()), ask(read("".join(self.PIECES)), told(), turns()), record)

    def test_between_any_two(self):
        for at in range(1, len(self.PIECES)):
            for blank in BLANKS:
                self.same("".join(self.PIECES[:at]) + blank + "".join(self.PIECES[at:]))

    def test_ahead_of_the_tree_and_behind_it(self):
        for blank in BLANKS:
            self.same(blank + "".join(self.PIECES))
            self.same("".join(self.PIECES) + blank)

    def test_everywhere_at_once(self):
        for blank in BLANKS:
            self.same(blank + blank.join(self.PIECES) + blank)

    def test_no_other_byte_is_a_blank(self):
        for byte in (0, 8, 11, 12, 14, 31, 33, 127, 160, 255):
            for at in range(len(self.PIECES) + 1):
                record = "".join(self.PIECES[:at]) + chr(byte) + "".join(self.PIECES[at:])
                self.assertEqual(last(read(record)), NO_RECORD, (byte, record))


class NothingChanges(unittest.TestCase):
    def test_behind_what_is_no_record(self):
        calls = laid("XO. ... ...") + [pass_turn(1)]
        before = ask(*calls, told(), rows(), turns())[-3:]
        self.assertEqual(ask(*calls, read("(;SZ[9];B[aa]"), told(), rows(), turns())[-3:], before)
        self.assertEqual(told_text(before[0]), "(;GM[1]FF[4]SZ[3]KM[0]AB[aa]AW[ba];B[])")
        self.assertEqual(last(*calls, read("("), look(0, 0)), [1])


if __name__ == "__main__":
    unittest.main()
