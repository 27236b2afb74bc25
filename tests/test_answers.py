"""The interface: the whole list that answers gives back, and that nothing else is done."""

import contextlib
import io
import unittest

from beatall.league import answers
from plain import RING_OF_7, START, FIRST, GAMES, LEFT

# Each of the nine calls, and what each answers, on one league of 3.
WHOLE = ((0, 3), (1, 2), (2, 0, 1), (3, 1, 0), (4, 2), (5, 2), (6, 1), (7,), (8,))
TOLD = ((1, 0), (1, 3), (1, 1), (1, 1), (1, 1), (1, 1), (3, 2, 1, 2), (1, 1), (2, 2, 1))


def joined(rows):
    return [number for row in rows for number in row]


class WholeList(unittest.TestCase):
    def test_the_nine_calls(self):
        self.assertEqual(answers(joined(WHOLE)), joined(TOLD))

    def test_call_by_call(self):
        for much in range(1, len(WHOLE) + 1):
            with self.subTest(much=much):
                self.assertEqual(answers(joined(WHOLE[:much])), joined(TOLD[:much]))

    def test_refusals_stand_alone(self):
        calls = [6, 0, 0, 8, 0, 2, 1, 2, 2, 2, 2, 2, 1, 1, 3, 0, 2, 4, 2, 5, 4, 6, 4, 6, 0]
        told = [1, -11, 1, -22, 1, 0, 1, -22, 1, -2, 1, -22, 1, -2, 1, -2, 1, -22, 1, -22, 3, 2, 0, 1]
        self.assertEqual(answers(calls), told)

    def test_first_tells_no_count(self):
        self.assertEqual(answers([START, 7, GAMES, RING_OF_7, FIRST]), [1, 0, 1, 21, 4, 7, 0, 1, 2])

    def test_left_tells_a_count(self):
        self.assertEqual(answers([START, 7, LEFT, 0]), [1, 0, 8, 7, 0, 1, 2, 3, 4, 5, 6])

    def test_each_call_takes_its_whole_numbers_before_a_start(self):
        takes = (1, 1, 2, 2, 1, 1, 1, 0, 0, 0, 0, 1, 1, 0, 1, 1, 0, 0)
        for call in range(1, 18):
            with self.subTest(call=call):
                # A number too few or too many would have the start read out of step.
                self.assertEqual(answers([call] + [5] * takes[call] + [0, 2]), [1, -11, 1, 0])

    def test_two_hundred_calls(self):
        self.assertEqual(answers([0, 7] + [8] * 199), [1, 0] + [2, 1, 0] * 199)
        self.assertEqual(answers([0, 7] + [3, 1, 0] * 199), [1, 0] + [1, 0] * 199)

    def test_whole_numbers_alone(self):
        told = answers(joined(WHOLE) + [3, 0, 0, 3, 0, 2, 5, 0, 5, 7])
        self.assertIs(type(told), list)
        for number in told:
            self.assertIs(type(number), int)


class NothingElse(unittest.TestCase):
    def test_what_is_handed_in_is_not_changed(self):
        for calls in (joined(WHOLE), [6, 0], [0, 8], [0, 4, 2, 9, 9]):
            with self.subTest(calls=calls):
                before = list(calls)
                answers(calls)
                self.assertEqual(calls, before)

    def test_a_second_time_the_same(self):
        calls = joined(WHOLE)
        self.assertEqual(answers(calls), answers(calls))

    def test_nothing_is_kept(self):
        answers([0, 7, 1, 5])
        self.assertEqual(answers([7]), [1, -11])
        given = answers([0, 3, 6, 0])
        given.append(9)
        self.assertEqual(answers([0, 3, 6, 0]), [1, 0, 4, 3, 0, 1, 2])

    def test_nothing_is_printed(self):
        out, err = io.StringIO(), io.StringIO()
        with contextlib.redirect_stdout(out), contextlib.redirect_stderr(err):
            answers(joined(WHOLE))
        self.assertEqual((out.getvalue(), err.getvalue()), ("", ""))


if __name__ == "__main__":
    unittest.main()
