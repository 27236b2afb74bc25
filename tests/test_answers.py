"""The interface: the whole list that answers gives back, and that nothing else is done."""

import contextlib
import io
import unittest

from beatall.league import answers
from plain import BARE, FIRST, GAMES, GREEDY, LEFT, OVER, RING_OF_7, SQUARES, START, STATE, TOP

# Each of the eighteen calls, and what each answers: on one league of 3, then on the one of 7 by squares.
WHOLE = ((0, 3), (1, 2), (2, 0, 1), (3, 1, 0), (4, 2), (5, 2), (6, 1), (7,), (8,),
         (9,), (10,), (11, 4), (12, 1), (13,), (14, 7), (15, 2), (16,), (17,))
TOLD = ((1, 0), (1, 3), (1, 1), (1, 1), (1, 1), (1, 1), (3, 2, 1, 2), (1, 1), (2, 2, 1),
        (1, 1), (2, 1, 1), (2, 1, 1), (1, 0), (1, 0), (1, 140596), (1, 7), (1, 0), (2, 7, 140596))

# Each of the last nine on one league of 4: 0 beats 1 and 2, 1 beats 2, 2 beats 3, 3 beats 0 and 1.
OF_4 = ((0, 4), (1, 20))
NINE = (((9,), [1, 4]),
        ((10,), [3, 2, 0, 2]),
        ((11, 2), [3, 2, 0, 3]),
        ((12, 1), [1, 1]),
        ((13,), [1, 1]),
        ((14, 3), [1, 2]),
        ((15, 3), [1, 15]),
        ((16,), [1, 0]),
        ((17,), [2, 4, 20]))


def joined(rows):
    return [number for row in rows for number in row]


def how_many_answers(told):
    much, place = 0, 0
    while place < len(told):
        much, place = much + 1, place + 1 + told[place]
    return much


class WholeList(unittest.TestCase):
    def test_the_eighteen_calls(self):
        self.assertEqual(answers(joined(WHOLE)), joined(TOLD))

    def test_the_last_nine_each_by_itself(self):
        for call, told in NINE:
            with self.subTest(call=call):
                self.assertEqual(answers(joined(OF_4) + list(call)), [1, 0, 1, 6] + told)
                self.assertEqual(answers(list(call)), [1, -11])
                self.assertEqual(answers([0, 8] + list(call)), [1, -22, 1, -11])

    def test_call_by_call(self):
        for much in range(1, len(WHOLE) + 1):
            with self.subTest(much=much):
                self.assertEqual(answers(joined(WHOLE[:much])), joined(TOLD[:much]))

    def test_refusals_stand_alone(self):
        calls = [6, 0, 0, 8, 0, 2, 1, 2, 2, 2, 2, 2, 1, 1, 3, 0, 2, 4, 2, 5, 4, 6, 4, 6, 0]
        told = [1, -11, 1, -22, 1, 0, 1, -22, 1, -2, 1, -22, 1, -2, 1, -2, 1, -22, 1, -22, 3, 2, 0, 1]
        self.assertEqual(answers(calls), told)
        calls = [11, 0, 14, 3, 15, 1, 0, 3, 11, 8, 14, 4, 15, 21, 17]
        told = [1, -11, 1, -11, 1, -11, 1, 0, 1, -22, 1, -22, 1, -22, 2, 3, 0]
        self.assertEqual(answers(calls), told)

    def test_first_tells_no_count(self):
        self.assertEqual(answers([START, 7, GAMES, RING_OF_7, FIRST]), [1, 0, 1, 21, 4, 7, 0, 1, 2])

    def test_left_tells_a_count(self):
        self.assertEqual(answers([START, 7, LEFT, 0]), [1, 0, 8, 7, 0, 1, 2, 3, 4, 5, 6])

    def test_over_greedy_and_bare_tell_a_count(self):
        self.assertEqual(answers([START, 7, OVER, 0]), [1, 0, 8, 7, 0, 1, 2, 3, 4, 5, 6])
        self.assertEqual(answers([START, 7, OVER, 127]), [1, 0, 1, 0])
        self.assertEqual(answers([START, 7, GAMES, RING_OF_7, GREEDY]), [1, 0, 1, 21, 4, 3, 0, 1, 2])
        self.assertEqual(answers([START, 7, BARE]), [1, 0, 2, 1, 6])
        self.assertEqual(answers([START, 7, GAMES, RING_OF_7, BARE]), [1, 0, 1, 21, 1, 0])

    def test_state_tells_two(self):
        self.assertEqual(answers([START, 7, STATE, SQUARES, 3, STATE]), [1, 0, 2, 7, 0, 1, 2, 2, 3, 2])

    def test_each_call_takes_its_whole_numbers_before_a_start(self):
        takes = (1, 1, 2, 2, 1, 1, 1, 0, 0, 0, 0, 1, 1, 0, 1, 1, 0, 0)
        for call in range(1, 18):
            with self.subTest(call=call):
                # A number too few or too many would have the start read out of step.
                self.assertEqual(answers([call] + [5] * takes[call] + [0, 2]), [1, -11, 1, 0])

    def test_each_call_takes_its_whole_numbers_behind_a_start(self):
        takes = (1, 1, 2, 2, 1, 1, 1, 0, 0, 0, 0, 1, 1, 0, 1, 1, 0, 0)
        for call in range(18):
            with self.subTest(call=call):
                told = answers([0, 6, call] + [5] * takes[call] + [0, 2])
                self.assertEqual(told[:2], [1, 0])
                self.assertEqual(told[3 + told[2]:], [1, 0])

    def test_whole_numbers_alone(self):
        told = answers(joined(WHOLE) + [3, 0, 0, 3, 0, 2, 5, 0, 5, 7, 12, 0, 12, 7, 12, TOP, 11, 0])
        self.assertIs(type(told), list)
        for number in told:
            self.assertIs(type(number), int)


class Longest(unittest.TestCase):
    def check(self, calls, told):
        """Told as it should be, twice, and the list that's handed in is the same afterwards."""
        before = list(calls)
        self.assertLessEqual(len(calls), 600)
        self.assertLessEqual(how_many_answers(told), 200)
        self.assertEqual(answers(calls), told)
        self.assertEqual(calls, before)
        self.assertEqual(answers(calls), told)
        self.assertEqual(calls, before)

    def test_two_hundred_calls(self):
        self.check([0, 7] + [8] * 199, [1, 0] + [2, 1, 0] * 199)
        self.check([0, 7] + [3, 1, 0] * 199, [1, 0] + [1, 0] * 199)
        self.check([0, 7] + [2, 0, 6] * 199, [1, 0] + [1, 6, 1, 0] * 99 + [1, 6])

    def test_two_hundred_starts(self):
        self.check([0, 7] * 200, [1, 0] * 200)

    def test_six_hundred_numbers(self):
        # Only turn and beats take two numbers, so 600 are 200 calls of these, and nobody starts;
        # with a start 599 are the most.
        self.check([2, 0, 1, 3, TOP, TOP] * 100, [1, -11] * 200)
        self.check([0, 7] + [3, 5, 6] * 199, [1, 0] + [1, 1] * 199)

    def test_each_of_the_last_nine_on_seven_by_squares(self):
        begin, begun = [0, 7, 14, 7], [1, 0, 1, 140596]
        for call, told in (([9], [1, 28]), ([10], [4, 3, 0, 1, 2]), ([11, 0], [8, 7, 0, 1, 2, 3, 4, 5, 6]),
                           ([12, 2], [1, 1]), ([12, 3], [1, 0]), ([12, TOP], [1, 1]), ([13], [1, 2]),
                           ([14, 7], [1, 140596]), ([15, 20], [1, 2097151]), ([16], [1, 0]),
                           ([17], [2, 7, 140596])):
            with self.subTest(call=call):
                self.check(begin + call * 198, begun + told * 198)

    def test_all_calls_over_and_over(self):
        self.check(joined(WHOLE) * 11, joined(TOLD) * 11)


class NothingElse(unittest.TestCase):
    def test_what_is_handed_in_is_not_changed(self):
        for calls in (joined(WHOLE), [6, 0], [0, 8], [0, 4, 2, 9, 9], [0, 2, 14, 7, 14, 8, 10, 11, 0, 16, 17]):
            with self.subTest(calls=calls):
                before = list(calls)
                answers(calls)
                self.assertEqual(calls, before)

    def test_a_second_time_the_same(self):
        calls = joined(WHOLE)
        self.assertEqual(answers(calls), answers(calls))

    def test_nothing_is_kept(self):
        answers([0, 7, 1, 5])
        self.assertEqual(answers([7]), [1, -11])
        answers([0, 7, 14, 7])
        self.assertEqual(answers([17, 0, 3, 17]), [1, -11, 1, 0, 2, 3, 0])
        given = answers([0, 3, 6, 0])
        given.append(9)
        self.assertEqual(answers([0, 3, 6, 0]), [1, 0, 4, 3, 0, 1, 2])

    def test_nothing_is_printed(self):
        out, err = io.StringIO(), io.StringIO()
        with contextlib.redirect_stdout(out), contextlib.redirect_stderr(err):
            answers(joined(WHOLE))
        self.assertEqual((out.getvalue(), err.getvalue()), ("", ""))


if __name__ == "__main__":
    unittest.main()
