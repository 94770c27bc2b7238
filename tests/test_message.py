"""Point 7: from whom a message may come, how long it is, when it is right; and what work that comes does."""

import unittest

from idlehosts.calls import dt_message, dt_take
from tests.helper import (GRANTED, GREATEST, IDLE, SMALLEST, TOLD, WANTED, CallCase, b4, begin, each, last, marker,
                          message, new_host, newly_sent, probe, record, send, take, token, want, work)

# Active and idle, with a token or none, waiting and owing: a message that isn't right is refused by all alike.
BEFORE = [begin(1, 3, 1), want(2), message(0, WANTED), message(0, token(0, 5)), message(2, work(7)),
          message(0, marker(0, 4))]


class From(CallCase):
    def test_every_other_host(self):
        for n in (2, 5, 16):
            for me in (0, n - 1):
                for sender in range(n):
                    self.assertEqual(last(begin(me, n, 0), message(sender, WANTED)), [-2 if sender == me else 0])

    def test_no_other_host(self):
        for sender in (SMALLEST, -1, 1, 3, 4, 16, GREATEST):
            self.refused_behind(BEFORE, message(sender, WANTED), -2)

    def test_ahead_of_what_is_not_right(self):
        for sender in (-1, 1, 3):
            for row in ([], [0], [5, 5], [0] * 8192, [0] * 8193):
                self.refused_behind(BEFORE, message(sender, row), -2)


class Size(CallCase):
    def test_0_to_8192_bytes_are_read(self):
        for size in (0, 8191, 8192):
            self.refused_behind(BEFORE, message(0, [4] * size), -3)

    def test_more_than_8192_bytes(self):
        for size in (8193, 8210):
            self.refused_behind(BEFORE, message(0, [4] * size), -2)

    def test_the_longest_that_is_right(self):
        works = [(2, [number] * 64) for number in range(64)]
        row = record(7, 1, [255] * 64, *works)
        self.assertEqual(len(row), 4296)
        self.assertEqual(last(*BEFORE, message(0, row)), [0])
        self.refused_behind(BEFORE, message(0, row + [0]), -3)


class Right(CallCase):
    def right(self, *rows):
        for row in rows:
            self.assertEqual(last(*BEFORE, message(0, row)), [0], row)

    def wrong(self, *rows):
        for row in rows:
            self.refused_behind(BEFORE, message(0, row), -3)

    def test_no_kind(self):
        self.wrong([])

    def test_kinds_that_there_are_not(self):
        for kind in (0, 8, 9, 127, 255):
            self.wrong([kind], [kind] + [0] * 5, [kind] + [0] * 7)

    def test_work(self):
        self.right([1], [1, 0], [1] + [255] * 63, [1] + [255] * 64)
        self.wrong([1] + [0] * 65, [1] + [0] * 66, [1] + [0] * 8191)

    def test_token(self):
        self.right([2, 0, 0, 0, 0, 0], [2, 1, 255, 255, 255, 255], [2, 1, 0, 0, 0, 128])
        self.wrong([2], [2, 0], [2, 0, 0, 0, 0], [2, 0, 0, 0, 0, 0, 0])
        self.wrong([2, 2, 0, 0, 0, 0], [2, 255, 0, 0, 0, 0])

    def test_marker_and_probe(self):
        for kind in (3, 7):
            self.right([kind, 0, 0, 0, 0, 0], [kind, 1, 1, 2, 3, 4], [kind, 2, 255, 255, 255, 255])
            self.wrong([kind], [kind, 0], [kind, 0, 1, 0, 0], [kind, 0, 1, 0, 0, 0, 0])
            self.wrong([kind, 3, 1, 0, 0, 0], [kind, 4, 1, 0, 0, 0], [kind, 255, 1, 0, 0, 0])

    def test_who_is_below_n_of_16(self):
        for kind in (3, 7):
            self.assertEqual(last(begin(0, 16, 0), message(1, [kind, 15, 1, 0, 0, 0])), [0])
            self.refused_behind([begin(0, 16, 0)], message(1, [kind, 16, 1, 0, 0, 0]), -3)

    def test_want_and_grant(self):
        self.right([5], [6])
        self.wrong([5, 0], [6, 0], [5, 5], [6, 6])

    def test_record_as_it_may_be(self):
        self.right(record(0, 0, []), record(1, 1, [7]), record(4294967295, 0, [9] * 64))
        self.right(record(1, 0, [], (0, [])), record(1, 0, [], (2, [1]), (1, [5] * 64), (0, []), (0, [])))
        self.right(record(1, 1, [1, 2], *[(1, [])] * 64))

    def test_record_too_short_by_each_byte(self):
        whole = record(1, 0, [3, 4], (2, [1]), (0, []), (1, [5, 6]))
        self.right(whole)
        self.wrong(*[whole[:size] for size in range(1, len(whole))])

    def test_record_one_byte_too_many(self):
        for whole in (record(0, 0, []), record(1, 1, [7]), record(1, 0, [], (2, [1])),
                      record(1, 0, [], *[(1, [])] * 64)):
            self.wrong(whole + [0], whole + [1])

    def test_record_too_much_of_2(self):
        self.wrong(record(1, 2, []), record(1, 255, [1]))

    def test_record_state_of_65(self):
        self.wrong(record(1, 0, [1] * 65), record(1, 0, [1] * 255))

    def test_record_of_65_works(self):
        self.wrong(record(1, 0, [], *[(1, [])] * 65), record(1, 0, [], *[(1, [])] * 255))

    def test_record_from_of_n(self):
        for sender in (3, 4, 255):
            self.wrong(record(1, 0, [], (sender, [])), record(1, 0, [], (2, []), (sender, [1])))
        self.assertEqual(last(begin(0, 16, 0), message(1, record(1, 0, [], (15, [])))), [0])
        self.refused_behind([begin(0, 16, 0)], message(1, record(1, 0, [], (16, []))), -3)

    def test_record_work_of_65_bytes(self):
        self.wrong(record(1, 0, [], (1, [2] * 65)), record(1, 0, [], (1, [2] * 64), (1, [2] * 65)))

    def test_record_counts_that_run_past_the_end(self):
        ahead = [4] + b4(1) + [0]
        self.wrong(ahead + [1], ahead + [3, 9, 9], ahead + [64] + [0] * 63, ahead + [64] + [0] * 64)
        self.wrong(ahead + [0, 1], ahead + [0, 1, 0], ahead + [0, 1, 0, 1], ahead + [0, 1, 0, 3, 5, 5])
        self.wrong(ahead + [0, 2, 0, 0], ahead + [0, 2, 0, 0, 1], ahead + [0, 64] + [0, 0] * 63)

    def test_record_counts_that_end_ahead_of_the_end(self):
        ahead = [4] + b4(1) + [0]
        self.wrong(ahead + [0, 0, 0], ahead + [1, 5, 0, 0], ahead + [0, 1, 0, 0, 0], ahead + [0, 1, 0, 1, 5, 0])


class TooManyWorks(CallCase):
    """1024 works that wait: 400 calls don't bring so many, so this is asked of the host itself."""

    def host_with_works(self, how_many):
        host = new_host(0, 2, 0)
        for number in range(how_many):
            self.assertEqual(dt_message(host, 1, work(number % 256)), [0])
        self.assertEqual(len(host.works), how_many)
        return host

    def test_1023_and_1024(self):
        host = self.host_with_works(1023)
        self.assertEqual(dt_message(host, 1, work(5)), [0])
        for row in (work(5), WANTED, GRANTED, token(0, 0), marker(1, 1), record(1, 0, []), probe(1, 1)):
            self.refused(host, dt_message, (1, row), -4)

    def test_two_due_at_once(self):
        host = self.host_with_works(1024)
        self.refused(host, dt_message, (0, WANTED), -2)
        self.refused(host, dt_message, (1, [1] * 8193), -2)
        self.refused(host, dt_message, (1, []), -4)
        self.refused(host, dt_message, (1, [8]), -4)

    def test_one_taken(self):
        host = self.host_with_works(1024)
        self.assertEqual(dt_take(host, 1), [1, 1, 0])
        self.assertEqual(dt_message(host, 1, work(5)), [0])
        self.refused(host, dt_message, (1, work(5)), -4)

    def test_as_many_as_400_calls_bring(self):
        self.assertEqual(last(begin(0, 2, 0), *[message(1, work())] * 398, TOLD), [0, 1, 0, 0, 0, 0, 398, 0, 0])


class Work(CallCase):
    def test_it_makes_active(self):
        self.assertEqual(each(begin(1, 3, 0), send(0, []), message(2, work(5)), send(0, []), TOLD),
                         [[0], [-3], [0], [0], [0, 1, 0, 0, 0, 1, 1, 0, 0]])
        self.assertEqual(last(begin(1, 3, 1), message(2, work(5)), TOLD), [0, 1, 0, 0, 0, 0, 1, 0, 0])

    def test_it_waits_to_be_taken_with_its_bytes_and_from_whom(self):
        self.assertEqual(each(begin(1, 3, 0), message(2, work(5, 0, 255)), message(0, work()), take(), take())[3:],
                         [[3, 2, 5, 0, 255], [0, 0]])

    def test_black_and_sum_are_told_by_the_token(self):
        before = [begin(2, 3, 0), message(0, work()), take(), IDLE]
        self.assertEqual(newly_sent(before, message(0, token(0, 0))), [(1, token(1, -1))])
        before = [begin(2, 3, 1), send(0, []), send(0, []), send(1, []), message(0, work()), take(), IDLE]
        self.assertEqual(newly_sent(before, message(0, token(0, 0))), [(1, token(1, 2))])

    def test_white_without_work_that_came(self):
        self.assertEqual(newly_sent([begin(2, 3, 1), send(0, []), IDLE], message(0, token(0, 0))), [(1, token(0, 1))])

    def test_sum_goes_round_below_0(self):
        host = new_host(1, 2, 0)
        dt_message(host, 0, work())
        self.assertEqual(host.balance, 4294967295)
        host.balance = 2147483648
        dt_message(host, 0, work())
        self.assertEqual(host.balance, 2147483647)

    def test_nothing_is_sent(self):
        self.assertEqual(newly_sent([begin(1, 3, 0)], message(0, work(1, 2))), [])

    def test_refused_work_leaves_all(self):
        for refusal, call in ((-2, message(1, work(1))), (-2, message(3, work(1))), (-3, message(0, work(*[1] * 65)))):
            self.refused_behind([begin(1, 3, 0)], call, refusal)

    def test_other_kinds_make_nothing_active(self):
        for row in (token(1, 0), marker(0, 1), record(1, 0, []), WANTED, GRANTED, probe(0, 1)):
            self.assertEqual(last(begin(1, 3, 0), message(0, row), TOLD)[1], 0)
            self.assertEqual(last(begin(1, 3, 0), message(0, row), TOLD)[6], 0)


if __name__ == "__main__":
    unittest.main()
