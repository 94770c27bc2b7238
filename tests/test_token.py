"""Whether all are idle: a token that comes, to each sort of host, through answers."""

import unittest

from tests.helper import (IDLE, TOLD, WATCH, CallCase, begin, each, last, message, newly_sent, output, send, sent, take,
                          token, work)


def found(*calls):
    return last(*calls, TOLD)[2]


class ToAnother(CallCase):
    def test_idle_hands_it_on_at_once(self):
        for n in (2, 3, 16):
            for me in range(1, n):
                sender = (me + 1) % n
                self.assertEqual(sent(begin(me, n, 0), message(sender, token(0, 7))), [(me - 1, token(0, 7))])

    def test_active_keeps_it_till_idle(self):
        before = [begin(2, 4, 1), send(0, [1]), message(3, token(0, 7))]
        self.assertEqual(sent(*before), [(0, work(1))])
        self.assertEqual(sent(*before, send(1, []), IDLE), [(0, work(1)), (1, work()), (1, token(0, 9))])

    def test_colour(self):
        white = [begin(1, 3, 0)]
        black = [begin(1, 3, 0), message(0, work()), take(), IDLE]
        self.assertEqual(newly_sent(white, message(2, token(0, 0))), [(0, token(0, 0))])
        self.assertEqual(newly_sent(white, message(2, token(1, 0))), [(0, token(1, 0))])
        self.assertEqual(newly_sent(black, message(2, token(0, 0))), [(0, token(1, -1))])
        self.assertEqual(newly_sent(black, message(2, token(1, 0))), [(0, token(1, -1))])

    def test_white_behind_it(self):
        black = [begin(1, 3, 0), message(0, work()), take(), IDLE, message(2, token(0, 0))]
        self.assertEqual(newly_sent(black, message(2, token(0, 0))), [(0, token(0, -1))])

    def test_black_while_it_has_the_token(self):
        before = [begin(1, 3, 1), message(2, token(0, 0)), message(0, work()), take()]
        self.assertEqual(newly_sent(before, IDLE), [(0, token(1, -1))])

    def test_sums(self):
        one_sent = [begin(1, 3, 1), send(2, []), IDLE]
        for total, handed_on in ((0, 1), (-1, 0), (-5, -4), (2147483647, -2147483648), (-2147483648, -2147483647)):
            self.assertEqual(newly_sent(one_sent, message(2, token(0, total))), [(0, token(0, handed_on))])
        one_came = [begin(1, 3, 0), message(2, work()), take(), IDLE]
        for total, handed_on in ((0, -1), (1, 0), (-5, -6), (-2147483648, 2147483647)):
            self.assertEqual(newly_sent(one_came, message(2, token(0, total))), [(0, token(1, handed_on))])

    def test_below_0_is_written_in_twos_complement(self):
        self.assertEqual(each(begin(1, 2, 0), message(0, work()), take(), IDLE, message(0, [2, 0, 255, 255, 255, 255]),
                              output())[-1], [6, 0, 2, 1, 254, 255, 255, 255])

    def test_never_found(self):
        self.assertEqual(found(begin(1, 2, 0), message(0, token(0, 0))), 0)

    def test_the_sum_stays_its_own(self):
        before = [begin(1, 3, 1), send(2, []), IDLE, message(2, token(0, 0))]
        self.assertEqual(newly_sent(before, message(2, token(0, 0))), [(0, token(0, 1))])

    def test_from_any_other_host(self):
        for sender in (0, 1, 3):
            self.assertEqual(sent(begin(2, 4, 0), message(sender, token(1, 3))), [(1, token(1, 3))])


class ToHost0(CallCase):
    def test_found(self):
        self.assertEqual(found(begin(0, 3, 0), WATCH, message(1, token(0, 0))), 1)
        self.assertEqual(newly_sent([begin(0, 3, 0), WATCH], message(1, token(0, 0))), [])

    def test_found_where_the_sums_make_0(self):
        self.assertEqual(found(begin(0, 3, 1), send(1, []), send(2, []), WATCH, IDLE, message(1, token(0, -2))), 1)
        came = [begin(0, 3, 0), message(1, work()), take(), WATCH, IDLE]
        self.assertEqual(found(*came, message(1, token(0, 1))), 1)

    def test_not_found_by_the_tokens_colour(self):
        before = [begin(0, 3, 0), WATCH]
        self.assertEqual(found(*before, message(1, token(1, 0))), 0)
        self.assertEqual(newly_sent(before, message(1, token(1, 0))), [(2, token(0, 0))])

    def test_not_found_by_the_hosts_colour(self):
        before = [begin(0, 3, 0), WATCH, message(1, work()), take(), IDLE]
        self.assertEqual(found(*before, message(1, token(0, 1))), 0)
        self.assertEqual(newly_sent(before, message(1, token(0, 1))), [(2, token(0, 0))])
        self.assertEqual(found(*before, message(1, token(0, 1)), message(1, token(0, 1))), 1)

    def test_not_found_by_the_sum(self):
        before = [begin(0, 3, 1), send(1, []), WATCH, IDLE]
        for total in (0, 1, -2, 2147483647, -2147483648):
            self.assertEqual(found(*before, message(1, token(0, total))), 0)
            self.assertEqual(newly_sent(before, message(1, token(0, total))), [(2, token(0, 0))])

    def test_active_looks_when_it_becomes_idle(self):
        before = [begin(0, 3, 0), WATCH, message(2, work()), message(1, token(0, 1)), take()]
        self.assertEqual(found(*before), 0)
        self.assertEqual(newly_sent(before, IDLE), [(2, token(0, 0))])
        self.assertEqual(found(*before, IDLE, message(1, token(0, 1))), 1)

    def test_the_token_is_gone_when_found(self):
        before = [begin(0, 2, 0), WATCH, message(1, token(0, 0)), message(1, work()), take()]
        self.assertEqual(newly_sent(before, IDLE), [])
        self.refused_behind(before, WATCH, -3)

    def test_found_stays(self):
        self.assertEqual(found(begin(0, 2, 0), WATCH, message(1, token(0, 0)), message(1, work())), 1)

    def test_two_hosts(self):
        self.assertEqual(sent(begin(0, 2, 0), WATCH, message(1, token(1, 0))), [(1, token(0, 0)), (1, token(0, 0))])


class OneTooMany(CallCase):
    def test_it_is_left_out(self):
        for me, handed_on in ((0, []), (2, [(1, token(0, 0))])):
            before = [begin(me, 3, 1), message(1, token(0, 0))]
            self.same_behind(before, message(1, token(1, 9)), [0])
            self.assertEqual(newly_sent(before, message(1, token(1, 9)), IDLE), handed_on)

    def test_host_0_that_watches_has_one(self):
        before = [begin(0, 3, 1), WATCH]
        self.same_behind(before, message(1, token(0, 0)), [0])
        self.assertEqual(newly_sent(before, message(1, token(0, 0)), IDLE), [(2, token(0, 0))])
        self.assertEqual(found(*before, message(1, token(0, 0)), IDLE), 0)

    def test_who_begins_to_watch_has_a_black_one_whatever_it_had(self):
        before = [begin(0, 3, 1), message(1, token(0, 0))]
        self.assertEqual(found(*before, IDLE), 1)
        self.assertEqual(found(*before, WATCH, IDLE), 0)
        self.assertEqual(newly_sent(before, WATCH, IDLE), [(2, token(0, 0))])

    def test_one_behind_another_is_not_too_many(self):
        self.assertEqual(sent(begin(1, 2, 0), message(0, token(0, 1)), message(0, token(1, 2))),
                         [(0, token(0, 1)), (0, token(1, 2))])


if __name__ == "__main__":
    unittest.main()
