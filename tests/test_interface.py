"""How the list of calls is read and how the answers are told."""

import unittest

from idlehosts.host import UnknownCall, answers
from tests.helper import IDLE, SNAPSHOT, WATCH, alone, begin, listed, send, state, want

ALL_SORTS = listed(begin(0, 4, 1), state([3, 4, 5]), send(2, [6, 0, 1, 2]), send(0, [2]), send(3, []), want(1), want(1),
                   SNAPSHOT, SNAPSHOT, WATCH, WATCH, state([6] * 65), begin(9, 4, 1), IDLE, IDLE)
ALL_TOLD = alone(0, 0, 0, -2, 0, 0, -3, 1, -3, 0, -3, -2, -2, 0, -3)


class Interface(unittest.TestCase):
    def test_one_call(self):
        self.assertEqual(answers([0, 0, 2, 0]), [1, 0])

    def test_all_sorts(self):
        self.assertEqual(answers(ALL_SORTS), ALL_TOLD)

    def test_bytes_that_look_like_calls_are_not_read_as_such(self):
        self.assertEqual(answers([0, 0, 2, 1, 1, 3, 3, 3, 3, 2, 1, 2, 3, 3, 3]), alone(0, 0, 0, 0))

    def test_refused_rows_are_read_whole(self):
        self.assertEqual(answers(listed(begin(0, 2, 1), state([3] * 80), send(1, [3] * 80), send(0, [3] * 4), IDLE)),
                         alone(0, -2, -2, -2, 0))

    def test_answers_are_plain_whole_numbers_in_a_list(self):
        told = answers(ALL_SORTS)
        self.assertIs(type(told), list)
        self.assertEqual({type(number) for number in told}, {int})

    def test_what_is_handed_in_stays(self):
        calls = list(ALL_SORTS)
        answers(calls)
        self.assertEqual(calls, ALL_SORTS)

    def test_nothing_is_kept(self):
        calls = list(ALL_SORTS)
        first = answers(calls)
        first_copy = list(first)
        self.assertEqual(answers(calls), first_copy)
        self.assertEqual(first, first_copy)

    def test_another_list_between_changes_nothing(self):
        first = answers(ALL_SORTS)
        answers(listed(begin(1, 2, 1), SNAPSHOT, want(0)))
        self.assertEqual(answers(ALL_SORTS), first)

    def test_as_many_calls_as_there_may_be(self):
        calls = listed(begin(0, 2, 1), *[send(1, [number % 256] * 64) for number in range(399)])
        self.assertEqual(answers(calls), alone(*[0] * 400))

    def test_as_many_begins_as_there_may_be(self):
        self.assertEqual(answers(listed(*[begin(15, 16, 1)] * 400)), alone(*[0] * 400))

    def test_a_number_that_no_call_has(self):
        for number in (-1, 14):
            with self.assertRaises(UnknownCall):
                answers([0, 0, 2, 0, number])


if __name__ == "__main__":
    unittest.main()
