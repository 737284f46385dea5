"""The interface: how calls are told and answered, and that nothing is kept or changed."""

import contextlib
import io
import unittest

from stonebreathdesk.board import answers


class Frozen(list):
    """A list that can be read alone."""

    def refuse(self, *given):
        raise AssertionError("what is handed in is changed")

    append = extend = insert = remove = pop = clear = sort = reverse = refuse
    __setitem__ = __delitem__ = __iadd__ = __imul__ = refuse


RECORD = [ord(sign) for sign in "(;SZ[2];B[ab])"]
EVERY_CALL = [
    1, 3, 0, 0, 2, 1, 0, 0, 3, 2, 1, 1, 4, 1, 5, 6, 0, 0, 7, 8, 1, 1, 9, 2, 10, 1, 1, 11, 1, 12, 1, 13, 0, 0, 2,
] + [14, 0, len(RECORD)] + RECORD + [15, 16]
TOLD = [ord(sign) for sign in "(;GM[1]FF[4]SZ[2]KM[0];B[ab])"]


class Answers(unittest.TestCase):
    def test_the_empty_list(self):
        self.assertEqual(answers([]), [])

    def test_each_answer_has_its_count_before_it(self):
        expected = [1, 0, 1, 0, 1, 0, 1, 0, 1, 0, 1, 1, 10, 9, 1, 0, 0, 0, 2, 0, 0, 0, 0, 3, 1, 4, 4]
        # White's stone is marked: black owns the other 8 places, and has one dead stone more.
        expected += [8, 7, 1, 2, 3, 5, 6, 7, 8, 1, 0, 5, 0, 9, 0, 0, 18, 1, 0, 1, 1]
        expected += [1, 1, len(TOLD) + 1, len(TOLD)] + TOLD + [4, 1, 1, 2, 0]
        self.assertEqual(answers(EVERY_CALL), expected)

    def test_each_call_alone(self):
        self.assertEqual(answers([1, 2, 0, 0]), [1, 0])
        self.assertEqual(answers([2, 1, 0, 0]), [1, 0])
        self.assertEqual(answers([3, 1, 0, 0]), [1, 0])
        self.assertEqual(answers([4, 1]), [1, 0])
        self.assertEqual(answers([5]), [1, -5])
        self.assertEqual(answers([6, 0, 0]), [1, 0])
        self.assertEqual(answers([7]), [362, 361] + [0] * 361)
        self.assertEqual(answers([8, 0, 0]), [1, -1])
        self.assertEqual(answers([9, 1]), [362, 361] + list(range(361)))
        self.assertEqual(answers([10, 0, 0]), [1, -1])
        self.assertEqual(answers([11, 0]), [5, 0, 0, 0, 361, 0])
        self.assertEqual(answers([12, 1]), [1, 0])
        self.assertEqual(answers([13, 0, 0, 1]), [1, -1])
        self.assertEqual(answers([14, 0, 3, 40, 59, 41]), [1, 0])
        self.assertEqual(answers([14, 0, 0]), [1, -7])
        self.assertEqual(answers([15])[:2], [25, 24])
        self.assertEqual(answers([16]), [1, 0])

    def test_a_refusal_stands_alone(self):
        self.assertEqual(answers([1, 1, 0, 0, 2, 3, 0, 0, 3, 0, 0, 0, 4, 0]), [1, -2] * 4)
        self.assertEqual(answers([6, 19, 0, 8, 0, 19, 8, 0, 0, 5]), [1, -2, 1, -2, 1, -1, 1, -5])
        self.assertEqual(answers([9, 0, 10, 19, 0, 11, 2, 12, 3, 13, 0, 0, 41]), [1, -2] * 5)
        self.assertEqual(answers([14, 2, 3, 40, 59, 41, 14, 0, 1, 40]), [1, -2, 1, -7])

    def test_numbers_of_a_call_are_not_taken_for_calls(self):
        self.assertEqual(answers([6, 7, 8, 6, 5, 7, 4, 2, 1, 5, 5, 0]), [1, 0, 1, 0, 1, 0, 1, 0])

    def test_bytes_of_a_record_are_not_taken_for_calls(self):
        self.assertEqual(answers([14, 0, 4, 1, 5, 7, 16, 5, 14, 1, 0, 14, 0, 3, 40, 59, 41, 5]),
                         [1, -7, 1, -5, 1, -7, 1, 0, 1, -5])

    def test_a_refused_record_is_gone_through_to_its_end(self):
        self.assertEqual(answers([14, 7, 2, 40, 59, 5, 14, 0, 5, 40, 59, 41, 41, 41, 5]), [1, -2, 1, -5, 1, -7, 1, -5])

    def test_a_record_as_long_as_may_be_handed_in(self):
        record = [40, 59] + [59, 66, 91, 93] * 1000 + [59, 67, 91]
        record += [120] * (29900 - len(record) - 2) + [93, 41]
        self.assertEqual(len(record), 29900)
        calls = [14, 0, 29900] + record + [16]
        kept = list(calls)
        self.assertEqual(answers(calls), [1, 1000, 3001, 1000] + [1, -1, 0] * 1000)
        self.assertEqual(calls, kept)
        self.assertEqual(answers(Frozen(calls)), answers(calls))

    def test_a_record_with_as_many_turns_as_find_room(self):
        record = [40, 59] + [59, 66, 91, 93] * 7474 + [41]
        self.assertEqual(answers([14, 0, len(record)] + record), [1, -6])

    def test_many_records(self):
        self.assertEqual(answers(([14, 0, len(RECORD)] + RECORD) * 1200), [1, 1] * 1200)

    def test_what_is_handed_in_stays_the_same(self):
        calls = list(EVERY_CALL)
        answers(calls)
        self.assertEqual(calls, EVERY_CALL)

    def test_what_is_handed_in_is_not_changed_for_a_while_either(self):
        self.assertEqual(answers(Frozen(EVERY_CALL)), answers(EVERY_CALL))

    def test_nothing_is_kept_from_one_time_to_the_next(self):
        answers([1, 5, 0, 1, 3, 1, 0, 0])
        self.assertEqual(answers([7, 5]), [362, 361] + [0] * 361 + [1, -5])
        first = answers(EVERY_CALL)
        self.assertEqual(answers(EVERY_CALL), first)
        answers([1, 5, 9, 1, 2, 1, 0, 0, 10, 0, 0])
        self.assertEqual(answers([2, 1, 0, 0, 2, 2, 1, 1, 11, 0]), [1, 0, 1, 0, 5, 0, 1, 1, 359, 0])
        answers([14, 1, len(RECORD)] + RECORD)
        self.assertEqual(answers([16, 15])[:4], [1, 0, 25, 24])

    def test_what_was_given_back_is_not_kept(self):
        first = answers(EVERY_CALL)
        kept = list(first)
        first.clear()
        self.assertEqual(answers(EVERY_CALL), kept)

    def test_it_answers_a_list_of_whole_numbers(self):
        told = answers(EVERY_CALL + [1, 0, 0, 0, 5])
        self.assertIs(type(told), list)
        self.assertEqual({type(number) for number in told}, {int})

    def test_nothing_is_printed(self):
        with contextlib.redirect_stdout(io.StringIO()) as out, contextlib.redirect_stderr(io.StringIO()) as err:
            answers(EVERY_CALL)
        self.assertEqual(out.getvalue() + err.getvalue(), "")

    def test_1200_calls_of_every_number(self):
        asked = [7, 8, 0, 0, 9, 1, 12, 1, 15, 16]
        line = EVERY_CALL + asked * 14 + [11, 0] * 400 + [10, 0, 1] * 400 + [13, 0, 1, 40] * 200
        told = answers(line)
        self.assertEqual(told[-400:], [1, 0] * 200)
        self.assertEqual({type(number) for number in told}, {int})

    def test_1200_calls(self):
        self.assertEqual(answers([4, 1] * 1000 + [6, 0, 0] * 100 + [7] * 100)[:2200], [1, 0] * 1100)


if __name__ == "__main__":
    unittest.main()
