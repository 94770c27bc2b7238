"""How the list of calls is read and how the answers are told."""

import unittest

from idlehosts.host import UnknownCall, answers
from tests.helper import (GRANTED, IDLE, SNAPSHOT, SUSPECT, TOLD, WANTED, WATCH, alone, begin, cut, each, everything,
                          grant, host_behind, last, listed, marker, message, new_host, output, probe, record, send,
                          state, take, token, want, work)

ALL_SORTS = listed(begin(0, 4, 1), state([3, 4, 5]), send(2, [6, 0, 1, 2]), send(0, [2]), send(3, []), want(1), want(1),
                   SNAPSHOT, SNAPSHOT, WATCH, WATCH, state([6] * 65), begin(9, 4, 1), IDLE, IDLE,
                   message(1, WANTED), message(1, [8]), message(4, WANTED), grant(1), SUSPECT, message(2, work(3, 13)),
                   take(1), take(2), take(2), IDLE, message(1, GRANTED), SUSPECT, grant(1), grant(1), grant(0),
                   output(4), output(5), output(-1), cut(0), cut(-1), TOLD,
                   begin(1, 2, 0), SNAPSHOT, output(6), output(6), message(0, work()), take(0),
                   message(0, marker(1, 1)), message(0, record(1, 1, [9])), cut(8), cut(9), TOLD)
ALL_TOLD = (alone(0, 0, 0, -2, 0, 0, -3, 1, -3, 0, -3, -2, -2, 0, -3, 0, -3, -2, -3, 0, 0, -1)
            + [4, 2, 2, 3, 13] + alone(-3, 0, 0, -3, 0, -3, -2, -1) + [7, 5, 2, 1, 6, 0, 1, 2] + alone(-2, -3, -2)
            + [9, 0, 0, 0, 0, 0, 8, 0, 0, 0]
            + alone(0, 1) + [8, 6, 0, 3, 1, 1, 0, 0, 0, 1, 0, 1, 0, 2, 0, 0] + alone(0, 0, -1)
            + [10, 9, 1, 1, 9, 0, 0, 0, 1, 0, 0] + [9, 0, 1, 0, 0, 0, 0, 0, 0, 0])


class Interface(unittest.TestCase):
    def test_one_call(self):
        self.assertEqual(answers([0, 0, 2, 0]), [1, 0])

    def test_all_sorts(self):
        self.assertEqual(answers(ALL_SORTS), ALL_TOLD)

    def test_bytes_that_look_like_calls_are_not_read_as_such(self):
        self.assertEqual(answers([0, 0, 2, 1, 1, 3, 3, 3, 3, 2, 1, 2, 3, 3, 3]), alone(0, 0, 0, 0))

    def test_refused_rows_are_read_whole(self):
        self.assertEqual(answers(listed(begin(0, 2, 1), state([3] * 80), send(1, [3] * 80), send(0, [3] * 4), IDLE)),
                         alone(0, -2, -2, -2, 0))

    def test_answers_are_plain_whole_numbers_in_a_list(self):
        told = answers(ALL_SORTS)
        self.assertIs(type(told), list)
        self.assertEqual({type(number) for number in told}, {int})

    def test_what_is_handed_in_stays(self):
        calls = list(ALL_SORTS)
        answers(calls)
        self.assertEqual(calls, ALL_SORTS)

    def test_nothing_is_kept(self):
        calls = list(ALL_SORTS)
        first = answers(calls)
        first_copy = list(first)
        self.assertEqual(answers(calls), first_copy)
        self.assertEqual(first, first_copy)

    def test_another_list_between_changes_nothing(self):
        first = answers(ALL_SORTS)
        answers(listed(begin(1, 2, 1), SNAPSHOT, want(0)))
        self.assertEqual(answers(ALL_SORTS), first)

    def test_as_many_calls_as_there_may_be(self):
        calls = listed(begin(0, 2, 1), *[send(1, [number % 256] * 64) for number in range(399)])
        self.assertEqual(answers(calls), alone(*[0] * 400))

    def test_as_many_begins_as_there_may_be(self):
        self.assertEqual(answers(listed(*[begin(15, 16, 1)] * 400)), alone(*[0] * 400))

    def test_as_long_as_the_list_may_be(self):
        rows = [message(1, record(1, 0, [1] * 64, *[(0, [2] * 64)] * 64))] * 6
        calls = [begin(0, 2, 0)] + rows + [message(1, [1] * 4000)]
        self.assertLessEqual(len(listed(*calls)), 30000)
        self.assertEqual(answers(listed(*calls)), alone(*[0] * 7, -3))

    def test_as_many_of_each_call_as_there_may_be(self):
        for call, answer in ((grant(1), [-3]), (SUSPECT, [-3]), (message(1, WANTED), [0]), (output(), [0]),
                             (take(), [-3]), (cut(), [-3]), (TOLD, [0] * 9)):
            self.assertEqual(each(begin(0, 2, 0), *[call] * 399), [[0]] + [answer] * 399)

    def test_the_cut_may_be_told_by_as_many_numbers_as_are_left(self):
        great = record(1, 1, [7] * 64, *[(1, [8] * 64)] * 64)
        before = [begin(0, 2, 0), SNAPSHOT, message(1, marker(0, 1)), message(1, great)]
        told = each(*before, *[cut()] * 200)
        self.assertEqual(told[4:], [[4294, 0, 0, 0] + great[5:]] * 200)

    def test_a_message_row_that_looks_like_calls_is_not_read_as_such(self):
        self.assertEqual(answers([0, 0, 2, 1, 9, 1, 4, 1, 13, 13, 13, 9, 5, 2, 13, 13, 11, 3]),
                         [1, 0, 1, 0, 1, -2, 5, 3, 1, 13, 13, 13])

    def test_a_number_that_no_call_has(self):
        for number in (-1, 14):
            with self.assertRaises(UnknownCall):
                answers([0, 0, 2, 0, number])


class BeginInTheMiddle(unittest.TestCase):
    """All that a host can have, then a dt_begin: the next calls are answered as on a new host."""

    USED = [begin(0, 3, 1), state([7]), send(1, [1]), WATCH, SNAPSHOT, message(1, marker(0, 1)),
            message(2, marker(0, 1)), message(1, record(1, 0, [1])), message(2, record(1, 0, [2])), SNAPSHOT,
            message(1, record(2, 0, [1])), message(1, marker(1, 4)), message(2, work(3)), take(), IDLE, message(1, token(0, 0)), want(1), want(2),
            message(1, WANTED), message(2, WANTED), SUSPECT, SUSPECT, message(1, probe(2, 9)), message(1, probe(0, 2)),
            message(2, work(4)), message(2, work(5)), message(1, token(1, 6))]

    BEHIND = ([TOLD, output(), take(), cut(), WATCH, message(1, token(0, 0)), TOLD, send(1, []), IDLE, grant(1),
               grant(2), want(1), message(1, WANTED), message(1, probe(2, 1)), SUSPECT, TOLD, message(1, marker(1, 4)),
               message(2, work(6)), message(2, marker(1, 4)), SNAPSHOT, message(1, marker(0, 1)),
               message(2, marker(0, 1)), message(1, record(1, 0, [3])), message(2, record(1, 0, [4])), cut(), TOLD]
              + [output()] * 20)

    def test_the_host_was_used_in_all_ways(self):
        self.assertEqual(last(*self.USED, TOLD), [0, 1, 1, 1, 1, 16, 2, 6, 6])
        new = everything(new_host(0, 3, 0))
        used = everything(host_behind(*self.USED))
        self.assertEqual([name for name in new if new[name] == used[name]], ["me", "n"])

    def test_all_is_new(self):
        for first in (begin(0, 3, 0), begin(0, 3, 1), begin(2, 3, 0), begin(0, 16, 1)):
            told = each(*self.USED, first, *self.BEHIND)
            self.assertEqual(told[len(self.USED):], each(first, *self.BEHIND))

    def test_told_and_taken(self):
        self.assertEqual(each(*self.USED, begin(0, 3, 0), TOLD, output(), take(), cut())[-4:],
                         [[0] * 9, [0], [-3], [-3]])

    def test_numbers_begin_anew(self):
        self.assertEqual(each(*self.USED, begin(0, 3, 0), SNAPSHOT, output(), output(), want(2), output(), SUSPECT,
                              output())[len(self.USED) + 1:],
                         [[1], [6, 1, 3, 0, 1, 0, 0, 0], [6, 2, 3, 0, 1, 0, 0, 0], [0], [1, 2, 5], [0],
                          [6, 2, 7, 0, 1, 0, 0, 0]])

    def test_refused_it_leaves_all(self):
        for wrong in (begin(0, 1, 0), begin(0, 17, 0), begin(-1, 3, 0), begin(3, 3, 0)):
            told = each(*self.USED, wrong, *self.BEHIND)
            self.assertEqual(told.pop(len(self.USED)), [-2])
            self.assertEqual(told, each(*self.USED, *self.BEHIND))


if __name__ == "__main__":
    unittest.main()
