"""Points 1 to 6 (of 6: dt_want): what each call answers, at its edges and where it refuses."""

import unittest

from idlehosts.calls import dt_begin, dt_idle, dt_send, dt_snapshot, dt_state, dt_want, dt_watch
from tests.helper import (GREATEST, IDLE, SMALLEST, SNAPSHOT, SUSPECT, TOLD, WANTED, WATCH, CallCase, begin, cut, each,
                          everything, grant, host_with_waiting, last, message, new_host, output, send, state, take,
                          waiting_16, waiting_2, want, work)


class Begin(CallCase):
    def test_n_from_2_to_16(self):
        for n in range(2, 17):
            self.answered([begin(0, n, 0)], [0])
            self.answered([begin(n - 1, n, 1)], [0])

    def test_n_that_is_wrong(self):
        for n in (SMALLEST, -1, 0, 1, 17, GREATEST):
            self.refused(new_host(1, 3, 1), dt_begin, (0, n, 0), -2)

    def test_me_that_is_wrong(self):
        for n in (2, 7, 16):
            for me in (SMALLEST, -1, n, n + 1, GREATEST):
                self.refused(new_host(1, 3, 1), dt_begin, (me, n, 0), -2)

    def test_active_is_all_but_0(self):
        for active in (SMALLEST, -1, 1, 2, GREATEST):
            self.answered([begin(0, 2, active), send(1, [])], [0, 0])
        self.answered([begin(0, 2, 0), send(1, [])], [0, -3])

    def test_a_new_host_has_nothing(self):
        host = new_host(1, 3, 5)
        self.assertEqual(everything(host), {
            "me": 1, "n": 3, "active": True, "state": [], "outgoing": [], "works": [], "balance": 0, "black": False,
            "watching": False, "token": None, "found": False, "cut_number": 0, "records": {}, "recordings": {},
            "waits": [False, False, False], "owes": [False, False, False], "suspect_number": 0, "counted": {},
            "locked": False})

    def test_in_the_middle_all_is_new(self):
        used = [state([1]), send(1, [2]), want(1), WATCH, SNAPSHOT]
        told = [0, 0, 0, 0, 1]
        self.answered([begin(0, 2, 1)] + used + [begin(0, 2, 1)] + used, [0] + told + [0] + told)

    def test_in_the_middle_nothing_is_left(self):
        host = host_with_waiting(0, 3, 5)
        dt_state(host, [1, 2])
        dt_watch(host)
        dt_snapshot(host)
        dt_want(host, 2)
        host.works.append((1, [7]))
        host.black = True
        host.found = True
        host.records[1] = [0]
        self.assertEqual(dt_begin(host, 2, 4, 0), [0])
        self.assertEqual(everything(host), everything(new_host(2, 4, 0)))

    def test_in_the_middle_the_other_number_and_count_hold(self):
        self.answered([begin(0, 16, 1), send(15, []), begin(1, 2, 1), send(15, []), send(1, []), send(0, []), WATCH],
                      [0, 0, 0, -2, -2, 0, -3])

    def test_in_the_middle_a_refused_one_leaves_all(self):
        for wrong in (begin(0, 1, 0), begin(0, 17, 0), begin(-1, 2, 0), begin(2, 2, 0)):
            self.answered([begin(0, 3, 1), WATCH, SNAPSHOT, want(2), wrong,
                           WATCH, SNAPSHOT, want(2), send(2, []), IDLE],
                          [0, 0, 1, 0, -2, -3, -3, -3, 0, 0])


class State(CallCase):
    def test_0_to_64_bytes(self):
        for size in (0, 1, 63, 64):
            self.answered([begin(0, 2, 0), state([255] * size)], [0, 0])
            host = new_host(0, 2, 0)
            dt_state(host, [9])
            self.assertEqual(dt_state(host, [200] * size), [0])
            self.assertEqual(host.state, [200] * size)

    def test_more_than_64_bytes(self):
        for size in (65, 80):
            self.answered([begin(0, 2, 0), state([0] * size)], [0, -2])
            host = new_host(0, 2, 0)
            dt_state(host, [1, 2, 3])
            self.refused(host, dt_state, ([0] * size,), -2)

    def test_idle_active_or_busy_is_all_one(self):
        self.answered([begin(0, 2, 1), state([1]), IDLE, state([2])], [0, 0, 0, 0])
        self.assertEqual(dt_state(host_with_waiting(0, 2, 513), [1]), [0])


class Send(CallCase):
    def test_to_every_other_host(self):
        for n in (2, 5, 16):
            for me in (0, 1, n - 1):
                for to in range(n):
                    self.answered([begin(me, n, 1), send(to, [1])], [0, -2 if to == me else 0])

    def test_to_no_host(self):
        for to in (SMALLEST, -1, 3, 4, 16, GREATEST):
            self.refused(new_host(1, 3, 1), dt_send, (to, []), -2)

    def test_0_to_64_bytes(self):
        for size, answer in ((0, 0), (1, 0), (63, 0), (64, 0), (65, -2), (80, -2)):
            self.answered([begin(0, 2, 1), send(1, [7] * size)], [0, answer])
        self.refused(new_host(0, 2, 1), dt_send, (1, [7] * 65), -2)

    def test_idle(self):
        self.answered([begin(0, 2, 1), IDLE, send(1, [])], [0, 0, -3])
        self.refused(new_host(0, 2, 0), dt_send, (1, []), -3)

    def test_busy_is_more_than_512(self):
        host = host_with_waiting(0, 2, 512)
        self.assertEqual(dt_send(host, 1, []), [0])
        self.assertEqual(len(host.outgoing), 513)
        self.refused(host, dt_send, (1, []), -4)

    def test_two_due_at_once(self):
        self.answered([begin(0, 2, 0), send(0, []), send(1, [0] * 65)], [0, -2, -2])
        host = host_with_waiting(0, 2, 513)
        self.refused(host, dt_send, (0, []), -2)
        self.refused(host, dt_send, (1, [0] * 65), -2)
        host.active = False
        self.refused(host, dt_send, (1, []), -3)
        self.refused(host, dt_send, (2, []), -2)

    def test_sum_is_one_more_and_goes_round(self):
        host = new_host(0, 2, 1)
        dt_send(host, 1, [])
        dt_send(host, 1, [1])
        self.assertEqual(host.balance, 2)
        host.balance = 4294967295
        dt_send(host, 1, [])
        self.assertEqual(host.balance, 0)

    def test_colour_stays(self):
        host = new_host(0, 2, 1)
        dt_send(host, 1, [])
        self.assertIs(host.black, False)


class Idle(CallCase):
    def test_active_then_idle(self):
        self.answered([begin(1, 2, 1), IDLE, IDLE, send(0, [])], [0, 0, -3, -3])

    def test_idle_already(self):
        self.refused(new_host(1, 2, 0), dt_idle, (), -3)

    def test_work_waits(self):
        host = new_host(1, 2, 1)
        host.works.append((0, []))
        self.refused(host, dt_idle, (), -3)

    def test_work_that_came_waits_till_it_is_taken(self):
        self.refused_behind([begin(1, 2, 0), message(0, work())], IDLE, -3)
        self.refused_behind([begin(1, 2, 0), message(0, work(1)), message(0, work(2)), take()], IDLE, -3)
        self.assertEqual(last(begin(1, 2, 0), message(0, work(1)), take(), IDLE), [0])

    def test_busy_is_more_than_512(self):
        self.assertEqual(dt_idle(host_with_waiting(0, 2, 512)), [0])
        self.refused(host_with_waiting(0, 2, 513), dt_idle, (), -4)

    def test_two_due_at_once(self):
        host = host_with_waiting(0, 2, 513)
        host.works.append((1, []))
        self.refused(host, dt_idle, (), -3)
        host = host_with_waiting(0, 2, 513)
        host.active = False
        self.refused(host, dt_idle, (), -3)


class Watch(CallCase):
    def test_host_0_once(self):
        for active in (0, 1):
            self.answered([begin(0, 2, active), WATCH, WATCH], [0, 0, -3])
        self.answered([begin(0, 2, 1), WATCH, IDLE, WATCH], [0, 0, 0, -3])

    def test_second_leaves_all(self):
        for active in (0, 1):
            host = new_host(0, 3, active)
            dt_watch(host)
            self.refused(host, dt_watch, (), -3)

    def test_only_host_0(self):
        for me in (1, 15):
            self.answered([begin(me, 16, 0), WATCH], [0, -3])
            self.refused(new_host(me, 16, 1), dt_watch, (), -3)

    def test_busy_is_more_than_512(self):
        self.assertEqual(dt_watch(host_with_waiting(0, 2, 512)), [0])
        self.refused(host_with_waiting(0, 2, 513), dt_watch, (), -4)

    def test_two_due_at_once(self):
        self.refused(host_with_waiting(1, 2, 513), dt_watch, (), -3)
        host = host_with_waiting(0, 2, 512)
        dt_watch(host)
        dt_send(host, 1, [])
        self.refused(host, dt_watch, (), -3)


class Snapshot(CallCase):
    def test_first_number_is_1(self):
        for me, n, active in ((0, 2, 0), (1, 2, 1), (15, 16, 0)):
            self.answered([begin(me, n, active), SNAPSHOT], [0, 1])

    def test_second_while_the_first_is_not_whole(self):
        self.answered([begin(0, 3, 1), SNAPSHOT, SNAPSHOT, send(1, []), SNAPSHOT], [0, 1, -3, 0, -3])
        host = new_host(0, 3, 0)
        dt_snapshot(host)
        self.refused(host, dt_snapshot, (), -3)
        host.records = {0: [], 2: []}
        self.refused(host, dt_snapshot, (), -3)

    def test_next_when_the_last_is_whole(self):
        host = self.host_with_whole_cut(1)
        self.assertEqual(dt_snapshot(host), [2])
        self.assertEqual(host.cut_number, 2)
        self.assertEqual(host.records, {})
        self.refused(host, dt_snapshot, (), -3)

    def test_number_is_told_in_31_bits(self):
        for last, told in ((2147483646, 2147483647), (2147483647, 0), (2147483648, 1), (4294967294, 2147483647)):
            host = self.host_with_whole_cut(last)
            self.assertEqual(dt_snapshot(host), [told])
            self.assertEqual(host.cut_number, last + 1)

    def test_last_number(self):
        self.refused(self.host_with_whole_cut(4294967295), dt_snapshot, (), -4)

    def test_busy_is_more_than_512(self):
        host = host_with_waiting(0, 16, 512)
        self.assertEqual(dt_snapshot(host), [1])
        self.assertEqual(len(host.outgoing), 527)
        self.refused(host_with_waiting(0, 2, 513), dt_snapshot, (), -4)

    def test_two_due_at_once(self):
        host = host_with_waiting(0, 2, 512)
        dt_snapshot(host)
        self.refused(host, dt_snapshot, (), -3)
        host = new_host(0, 2, 0)
        dt_snapshot(host)
        host.cut_number = 4294967295
        self.refused(host, dt_snapshot, (), -3)

    def host_with_whole_cut(self, number):
        host = new_host(0, 3, 0)
        host.cut_number = number
        host.records = {0: [], 1: [], 2: []}
        return host


class Busy(CallCase):
    """More than 512 messages wait to go out: through answers, one call for each that can be refused so."""

    def test_of_16_hosts(self):
        for call, answer in ((send(15, [1]), [0]), (IDLE, [0]), (WATCH, [0]), (SNAPSHOT, [1]), (SUSPECT, [0]),
                             (message(3, WANTED), [0])):
            self.assertEqual(last(*waiting_16(0, 512), TOLD)[5], 512)
            self.assertEqual(last(*waiting_16(0, 512), call), answer)
            self.assertEqual(last(*waiting_16(0, 513), TOLD)[5], 513)
            self.refused_behind(waiting_16(0, 513), call, -4)

    def test_of_2_hosts(self):
        for call in (want(1), grant(1)):
            few = waiting_2(0, 512) + [message(1, WANTED)]
            many = waiting_2(0, 512) + [message(1, WANTED), send(1, [])]
            self.assertEqual(last(*few, call), [0])
            self.refused_behind(many, call, -4)

    def test_these_calls_are_not_refused_so(self):
        many = waiting_2(0, 512) + [message(1, work(7)), send(1, [])]
        self.assertEqual(each(*many, TOLD, state([1]), take(), cut(), output(), begin(1, 2, 0))[len(many):],
                         [[0, 1, 0, 0, 0, 513, 1, 0, 0], [0], [1, 1, 7], [-3], [6, 1, 3, 1, 0, 0, 0, 0], [0]])

    def test_one_less_and_it_is_busy_no_more(self):
        many = waiting_2(0, 513)
        self.assertEqual(each(*many, want(1), output(), want(1), IDLE)[len(many):],
                         [[-4], [6, 1, 3, 1, 0, 0, 0, 0], [0], [-4]])

    def test_one_call_may_send_more_than_that(self):
        self.assertEqual(last(*waiting_16(0, 512), SNAPSHOT, TOLD)[5], 527)

    def test_what_is_told_ahead_of_it(self):
        many = waiting_16(0, 513)
        for call, refusal in ((send(0, []), -2), (send(1, [0] * 65), -2), (want(0), -2), (want(1), -3), (grant(16), -2),
                              (grant(1), -3), (message(0, WANTED), -2), (message(1, [0] * 8193), -2)):
            self.refused_behind(many, call, refusal)
        self.refused_behind(waiting_16(1, 513), WATCH, -3)
        self.refused_behind(waiting_2(0, 513), SUSPECT, -3)
        self.refused_behind(waiting_2(0, 512) + [SNAPSHOT], SNAPSHOT, -3)
        self.refused_behind(waiting_16(0, 512) + [WATCH, send(1, [])], WATCH, -3)
        self.refused_behind(waiting_2(0, 512) + [message(1, work()), send(1, [])], IDLE, -3)

    def test_what_is_told_behind_it(self):
        self.refused_behind(waiting_16(0, 513), message(1, [0]), -4)
        self.refused_behind(waiting_16(0, 513), message(1, []), -4)


class Recordings(CallCase):
    def test_what_is_recorded(self):
        host = new_host(1, 4, 1)
        dt_state(host, [5, 6])
        dt_snapshot(host)
        dt_state(host, [7])
        self.assertEqual(everything(host.recordings), {
            1: {"number": 1, "state": [5, 6], "ways": [True, False, True, True], "works": [], "too_much": False}})

    def test_one_that_another_began(self):
        host = new_host(1, 4, 1)
        host.begin_recording(3, 7, 2)
        self.assertEqual(host.recordings[3].ways, [True, False, False, True])
        self.assertEqual(host.outgoing, [(to, [3, 3, 7, 0, 0, 0]) for to in (0, 2, 3)])


class Want(CallCase):
    def test_every_other_host_once(self):
        for n in (2, 16):
            for me in (0, n - 1):
                calls = [begin(me, n, 0)]
                told = [0]
                for who in range(n):
                    calls = calls + [want(who), want(who)]
                    told = told + ([-2, -2] if who == me else [0, -3])
                self.answered(calls, told)

    def test_no_host(self):
        for who in (SMALLEST, -1, 1, 3, 16, GREATEST):
            self.refused(new_host(1, 3, 1), dt_want, (who,), -2)

    def test_it_waits_for_these_alone(self):
        host = new_host(1, 4, 0)
        dt_want(host, 3)
        dt_want(host, 0)
        self.assertEqual(host.waits, [True, False, False, True])

    def test_second_leaves_all(self):
        host = new_host(0, 3, 0)
        dt_want(host, 2)
        self.refused(host, dt_want, (2,), -3)

    def test_busy_is_more_than_512(self):
        self.assertEqual(dt_want(host_with_waiting(0, 2, 512), 1), [0])
        self.refused(host_with_waiting(0, 2, 513), dt_want, (1,), -4)

    def test_two_due_at_once(self):
        host = host_with_waiting(0, 2, 512)
        dt_want(host, 1)
        self.refused(host, dt_want, (1,), -3)
        self.refused(host, dt_want, (0,), -2)


if __name__ == "__main__":
    unittest.main()
