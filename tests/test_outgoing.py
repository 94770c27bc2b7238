"""What goes out: the bytes of each message, for whom it is, and in which order."""

import unittest

from idlehosts.calls import dt_idle, dt_send, dt_snapshot, dt_watch
from idlehosts.host import answers_on
from idlehosts.kept import Host, Token
from idlehosts.messages import four_bytes
from tests.helper import IDLE, SNAPSHOT, WATCH, alone, begin, listed, new_host, send, state, want


def outgoing(*calls):
    host = Host()
    answers_on(host, listed(*calls))
    return host.outgoing


class Numbers(unittest.TestCase):
    def test_four_bytes(self):
        for number, row in ((0, [0, 0, 0, 0]), (255, [255, 0, 0, 0]), (256, [0, 1, 0, 0]), (65535, [255, 255, 0, 0]),
                            (65536, [0, 0, 1, 0]), (16777215, [255, 255, 255, 0]), (16777216, [0, 0, 0, 1]),
                            (4294967295, [255, 255, 255, 255])):
            self.assertEqual(four_bytes(number), row)


class Works(unittest.TestCase):
    def test_kind_and_bytes(self):
        self.assertEqual(outgoing(begin(0, 3, 1), send(2, [0, 255, 7]), send(1, [])), [(2, [1, 0, 255, 7]), (1, [1])])

    def test_64_bytes(self):
        row = list(range(64))
        self.assertEqual(outgoing(begin(1, 2, 1), send(0, row)), [(0, [1] + row)])


class Markers(unittest.TestCase):
    def test_to_all_others_from_0_on(self):
        self.assertEqual(outgoing(begin(2, 4, 0), SNAPSHOT),
                         [(0, [3, 2, 1, 0, 0, 0]), (1, [3, 2, 1, 0, 0, 0]), (3, [3, 2, 1, 0, 0, 0])])

    def test_16_hosts(self):
        self.assertEqual([to for to, message in outgoing(begin(15, 16, 0), SNAPSHOT)], list(range(15)))

    def test_number_is_little_endian_and_whole(self):
        host = new_host(0, 2, 0)
        host.cut_number = 0x84030201
        host.records = {0: [], 1: []}
        dt_snapshot(host)
        self.assertEqual(host.outgoing, [(1, [3, 0, 2, 2, 3, 0x84])])


class Wants(unittest.TestCase):
    def test_kind_alone(self):
        self.assertEqual(outgoing(begin(1, 4, 0), want(3), want(0)), [(3, [5]), (0, [5])])


class Tokens(unittest.TestCase):
    def passed_by_host_0(self, host_black, balance, token):
        host = new_host(0, 5, 1)
        host.black = host_black
        host.balance = balance
        host.token = token
        self.assertEqual(dt_idle(host), [0])
        self.assertIsNone(host.token)
        self.assertIs(host.black, False)
        return host

    def test_idle_host_0_sends_it_as_it_begins_to_watch(self):
        self.assertEqual(outgoing(begin(0, 2, 0), WATCH), [(1, [2, 0, 0, 0, 0, 0])])
        self.assertEqual(outgoing(begin(0, 16, 0), WATCH), [(15, [2, 0, 0, 0, 0, 0])])

    def test_first_token_is_black_so_nothing_is_found(self):
        host = new_host(0, 2, 0)
        dt_watch(host)
        self.assertIs(host.found, False)
        self.assertIsNone(host.token)

    def test_active_host_0_keeps_it_till_idle(self):
        self.assertEqual(outgoing(begin(0, 3, 1), WATCH), [])
        host = new_host(0, 3, 1)
        dt_watch(host)
        self.assertEqual((host.token.black, host.token.total), (True, 0))
        self.assertEqual(outgoing(begin(0, 3, 1), WATCH, send(1, [4]), IDLE), [(1, [1, 4]), (2, [2, 0, 0, 0, 0, 0])])

    def test_host_0_starts_with_sum_0_whatever_its_own(self):
        host = new_host(0, 3, 1)
        dt_send(host, 1, [])
        dt_watch(host)
        dt_idle(host)
        self.assertEqual(host.outgoing[1:], [(2, [2, 0, 0, 0, 0, 0])])
        self.assertEqual(host.balance, 1)

    def test_no_token_nothing_goes(self):
        self.assertEqual(outgoing(begin(0, 3, 1), IDLE), [])
        self.assertEqual(outgoing(begin(2, 3, 1), IDLE), [])

    def test_found_where_all_is_white_and_the_sums_are_0(self):
        for balance, total in ((0, 0), (3, 4294967293), (4294967295, 1)):
            host = self.passed_by_host_0(False, balance, Token(False, total))
            self.assertIs(host.found, True)
            self.assertEqual(host.outgoing, [])

    def test_not_found_else(self):
        for black, balance, token in ((True, 0, Token(False, 0)), (False, 0, Token(True, 0)), (False, 1, Token(False, 0)),
                                      (False, 0, Token(False, 1)), (False, 1, Token(False, 1))):
            host = self.passed_by_host_0(black, balance, token)
            self.assertIs(host.found, False)
            self.assertEqual(host.outgoing, [(4, [2, 0, 0, 0, 0, 0])])

    def test_the_host_before_it_gets_it(self):
        for me in range(1, 16):
            host = new_host(me, 16, 1)
            host.token = Token(False, 5)
            dt_idle(host)
            self.assertEqual(host.outgoing, [(me - 1, [2, 0, 5, 0, 0, 0])])

    def test_another_host_hands_it_on(self):
        for host_black, balance, token, message in (
                (False, 0, Token(False, 0), [2, 0, 0, 0, 0, 0]),
                (True, 1, Token(False, 1), [2, 1, 2, 0, 0, 0]),
                (False, 0x04030201, Token(True, 0), [2, 1, 1, 2, 3, 4]),
                (True, 4294967294, Token(True, 0), [2, 1, 254, 255, 255, 255]),
                (False, 4294967295, Token(False, 4294967295), [2, 0, 254, 255, 255, 255]),
                (False, 4294967295, Token(False, 1), [2, 0, 0, 0, 0, 0])):
            host = new_host(3, 5, 1)
            host.black = host_black
            host.balance = balance
            host.token = token
            self.assertEqual(dt_idle(host), [0])
            self.assertEqual(host.outgoing, [(2, message)])
            self.assertIsNone(host.token)
            self.assertIs(host.black, False)
            self.assertIs(host.found, False)
            self.assertEqual(host.balance, balance)


class Order(unittest.TestCase):
    def test_each_behind_all_that_waits(self):
        self.assertEqual(
            outgoing(begin(0, 3, 1), want(2), send(1, [9]), SNAPSHOT, state([1]), WATCH, send(2, [8]), want(1), IDLE),
            [(2, [5]), (1, [1, 9]), (1, [3, 0, 1, 0, 0, 0]), (2, [3, 0, 1, 0, 0, 0]), (2, [1, 8]), (1, [5]),
             (2, [2, 0, 0, 0, 0, 0])])

    def test_refused_calls_send_nothing(self):
        host = Host()
        told = answers_on(host, listed(begin(1, 3, 0), send(0, []), send(1, []), WATCH, IDLE, want(1), want(3),
                                       state([0] * 65), begin(0, 1, 0)))
        self.assertEqual(told, alone(0, -3, -2, -3, -3, -2, -2, -2, -2))
        self.assertEqual(host.outgoing, [])

    def test_begin_drops_what_waits(self):
        self.assertEqual(outgoing(begin(0, 2, 1), send(1, [1]), begin(1, 2, 1), send(0, [2])), [(0, [1, 2])])

    def test_refused_begin_drops_nothing(self):
        self.assertEqual(outgoing(begin(0, 2, 1), send(1, [1]), begin(2, 2, 1), send(1, [2])),
                         [(1, [1, 1]), (1, [1, 2])])


if __name__ == "__main__":
    unittest.main()
