"""The interface: how calls are told and answered, and that nothing is kept or changed."""

import contextlib
import io
import unittest

from stonebreathdesk.board import answers


class Frozen(list):
    """A list that can be read alone."""

    def refuse(self, *given):
        raise AssertionError("what is handed in is changed")

    append = extend = insert = remove = pop = clear = sort = reverse = refuse
    __setitem__ = __delitem__ = __iadd__ = __imul__ = refuse


EVERY_CALL = [1, 3, 0, 0, 2, 1, 0, 0, 3, 2, 1, 1, 4, 1, 5, 6, 0, 0, 7, 8, 1, 1]


class Answers(unittest.TestCase):
    def test_the_empty_list(self):
        self.assertEqual(answers([]), [])

    def test_each_answer_has_its_count_before_it(self):
        expected = [1, 0, 1, 0, 1, 0, 1, 0, 1, 0, 1, 1, 10, 9, 1, 0, 0, 0, 2, 0, 0, 0, 0, 3, 1, 4, 4]
        self.assertEqual(answers(EVERY_CALL), expected)

    def test_each_call_alone(self):
        self.assertEqual(answers([1, 2, 0, 0]), [1, 0])
        self.assertEqual(answers([2, 1, 0, 0]), [1, 0])
        self.assertEqual(answers([3, 1, 0, 0]), [1, 0])
        self.assertEqual(answers([4, 1]), [1, 0])
        self.assertEqual(answers([5]), [1, -5])
        self.assertEqual(answers([6, 0, 0]), [1, 0])
        self.assertEqual(answers([7]), [362, 361] + [0] * 361)
        self.assertEqual(answers([8, 0, 0]), [1, -1])

    def test_a_refusal_stands_alone(self):
        self.assertEqual(answers([1, 1, 0, 0, 2, 3, 0, 0, 3, 0, 0, 0, 4, 0]), [1, -2] * 4)
        self.assertEqual(answers([6, 19, 0, 8, 0, 19, 8, 0, 0, 5]), [1, -2, 1, -2, 1, -1, 1, -5])

    def test_numbers_of_a_call_are_not_taken_for_calls(self):
        self.assertEqual(answers([6, 7, 8, 6, 5, 7, 4, 2, 1, 5, 5, 0]), [1, 0, 1, 0, 1, 0, 1, 0])

    def test_what_is_handed_in_stays_the_same(self):
        calls = list(EVERY_CALL)
        answers(calls)
        self.assertEqual(calls, EVERY_CALL)

    def test_what_is_handed_in_is_not_changed_for_a_while_either(self):
        self.assertEqual(answers(Frozen(EVERY_CALL)), answers(EVERY_CALL))

    def test_nothing_is_kept_from_one_time_to_the_next(self):
        answers([1, 5, 0, 1, 3, 1, 0, 0])
        self.assertEqual(answers([7, 5]), [362, 361] + [0] * 361 + [1, -5])
        first = answers(EVERY_CALL)
        self.assertEqual(answers(EVERY_CALL), first)

    def test_what_was_given_back_is_not_kept(self):
        first = answers(EVERY_CALL)
        kept = list(first)
        first.clear()
        self.assertEqual(answers(EVERY_CALL), kept)

    def test_it_answers_a_list_of_whole_numbers(self):
        told = answers(EVERY_CALL + [1, 0, 0, 0, 5])
        self.assertIs(type(told), list)
        self.assertEqual({type(number) for number in told}, {int})

    def test_nothing_is_printed(self):
        with contextlib.redirect_stdout(io.StringIO()) as out, contextlib.redirect_stderr(io.StringIO()) as err:
            answers(EVERY_CALL)
        self.assertEqual(out.getvalue() + err.getvalue(), "")

    def test_1200_calls(self):
        self.assertEqual(answers([4, 1] * 1000 + [6, 0, 0] * 100 + [7] * 100)[:2200], [1, 0] * 1100)


if __name__ == "__main__":
    unittest.main()
