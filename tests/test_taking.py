"""Points 8 and 10: what goes out, what is taken, and what a host tells of itself."""

import unittest

from tests.helper import (GRANTED, GREATEST, IDLE, SMALLEST, SNAPSHOT, SUSPECT, TOLD, WANTED, WATCH, CallCase, begin,
                          each, grant, last, marker, message, output, probe, record, send, take, token, want, work)


class Output(CallCase):
    def test_nothing_waits(self):
        for most in (0, 1, GREATEST):
            self.same_behind([begin(0, 2, 1)], output(most), [0])
            self.same_behind([begin(0, 2, 1), send(1, []), output()], output(most), [0])

    def test_most_below_0(self):
        for most in (SMALLEST, -2, -1):
            self.refused_behind([begin(0, 2, 1)], output(most), -2)
            self.refused_behind([begin(0, 2, 1), send(1, [1])], output(most), -2)

    def test_most_too_small_or_just_enough(self):
        for row in ([], [7], list(range(64))):
            before = [begin(0, 2, 1), send(1, row), send(1, [9])]
            for most in range(0, len(row) + 1):
                self.refused_behind(before, output(most), -1)
            for most in (len(row) + 1, len(row) + 2, GREATEST):
                self.assertEqual(each(*before, output(most), output())[3:], [[len(row) + 1, 1, 1] + row, [2, 1, 1, 9]])

    def test_first_in_first_out(self):
        calls = [begin(1, 3, 1), send(2, [1, 2]), want(0), SNAPSHOT, message(0, WANTED), SUSPECT, message(0, GRANTED),
                 grant(0), message(0, token(0, 0)), IDLE]
        self.assertEqual(each(*calls, *[output()] * 8)[len(calls):],
                         [[3, 2, 1, 1, 2], [1, 0, 5], [6, 0, 3, 1, 1, 0, 0, 0], [6, 2, 3, 1, 1, 0, 0, 0],
                          [6, 0, 7, 1, 1, 0, 0, 0], [1, 0, 6], [6, 0, 2, 0, 1, 0, 0, 0], [0]])

    def test_what_comes_behind_goes_behind(self):
        self.assertEqual(each(begin(0, 3, 1), send(1, [1]), send(2, [2]), output(), send(1, [3]), output(), output(),
                              output())[3:],
                         [[2, 1, 1, 1], [0], [2, 2, 1, 2], [2, 1, 1, 3], [0]])

    def test_a_first_that_is_too_long_is_not_passed_by(self):
        before = [begin(0, 2, 1), send(1, [1, 2]), send(1, [])]
        self.assertEqual(each(*before, output(1), output(2), output(3), output(1))[3:],
                         [[-1], [-1], [3, 1, 1, 1, 2], [1, 1, 1]])

    def test_a_record_is_told_whole(self):
        works = [(1, [number] * 64) for number in range(64)]
        calls = ([begin(0, 3, 0), [1, 64] + [8] * 64, message(2, marker(2, 1))]
                 + [message(sender, work(*row)) for sender, row in works]
                 + [message(1, marker(2, 1)), output(), output()])
        row = record(1, 0, [8] * 64, *works)
        self.refused_behind(calls, output(4295), -1)
        self.assertEqual(last(*calls, output(4296)), [4296, 2] + row)


class Take(CallCase):
    def test_nothing_waits(self):
        for most in (0, 1, GREATEST):
            self.refused_behind([begin(0, 2, 1)], take(most), -3)
            self.refused_behind([begin(0, 2, 1), message(1, work(1)), take()], take(most), -3)

    def test_most_below_0(self):
        for most in (SMALLEST, -2, -1):
            self.refused_behind([begin(0, 2, 1)], take(most), -2)
            self.refused_behind([begin(0, 2, 1), message(1, work(1))], take(most), -2)

    def test_most_too_small_or_just_enough(self):
        for row in ([7], [0, 1], list(range(64))):
            before = [begin(0, 3, 1), message(2, work(*row)), message(1, work(9))]
            for most in range(0, len(row)):
                self.refused_behind(before, take(most), -1)
            for most in (len(row), len(row) + 1, GREATEST):
                self.assertEqual(each(*before, take(most), take())[3:], [[len(row), 2] + row, [1, 1, 9]])

    def test_work_of_0_bytes(self):
        for most in (0, 1, GREATEST):
            self.assertEqual(each(begin(0, 3, 0), message(2, work()), take(most), take(most))[2:], [[0, 2], [-3]])

    def test_first_in_first_out(self):
        calls = [begin(0, 16, 0)] + [message(sender, work(sender, 1)) for sender in (15, 3, 15, 1)]
        self.assertEqual(each(*calls, take(), message(9, work()), *[take()] * 5)[5:],
                         [[2, 15, 15, 1], [0], [2, 3, 3, 1], [2, 15, 15, 1], [2, 1, 1, 1], [0, 9], [-3]])

    def test_it_stays_active(self):
        self.assertEqual(last(begin(0, 2, 0), message(1, work()), take(), TOLD), [0, 1, 0, 0, 0, 0, 0, 0, 0])

    def test_output_and_take_are_two_rows(self):
        before = [begin(0, 2, 1), send(1, [1]), message(1, work(2))]
        self.assertEqual(each(*before, take(), output(), take(), output())[3:],
                         [[1, 1, 2], [2, 1, 1, 1], [-3], [0]])


class Told(CallCase):
    def told(self, numbers, *calls):
        self.assertEqual(last(*calls, TOLD), [0] + numbers)
        self.same_behind(list(calls), TOLD, [0] + numbers)

    def test_all_0(self):
        self.told([0, 0, 0, 0, 0, 0, 0, 0], begin(0, 2, 0))
        self.told([0, 0, 0, 0, 0, 0, 0, 0], begin(15, 16, 0))

    def test_active(self):
        for active in (SMALLEST, -1, 1, 2, GREATEST):
            self.told([1, 0, 0, 0, 0, 0, 0, 0], begin(0, 2, active))
        self.told([0, 0, 0, 0, 0, 0, 0, 0], begin(0, 2, 1), IDLE)

    def test_found(self):
        self.told([0, 1, 0, 0, 0, 0, 0, 0], begin(0, 2, 0), WATCH, output(), message(1, token(0, 0)))
        self.told([0, 0, 0, 0, 1, 0, 0, 0], begin(0, 2, 0), WATCH, output(), message(1, token(1, 0)))

    def test_blocked_and_locked(self):
        before = [begin(0, 2, 0), want(1), message(1, WANTED)]
        self.told([0, 0, 1, 0, 1, 0, 2, 2], *before)
        self.told([0, 0, 1, 1, 2, 0, 2, 2], *before, SUSPECT, message(1, probe(0, 1)))

    def test_how_many_wait(self):
        before = [begin(0, 3, 1), send(1, []), send(2, [1]), send(1, []), message(1, work(1)), message(2, work())]
        self.told([1, 0, 0, 0, 3, 2, 0, 0], *before)
        self.told([1, 0, 0, 0, 2, 2, 0, 0], *before, output())
        self.told([1, 0, 0, 0, 2, 1, 0, 0], *before, output(), take())
        self.told([1, 0, 0, 0, 2, 1, 0, 0], *before, output(), take(), output(0), output(-1), take(-1))

    def test_bits_of_each_host(self):
        for who in range(16):
            me = 0 if who > 0 else 1
            self.told([0, 0, 1, 0, 1, 0, 1 << who, 0], begin(me, 16, 0), want(who))
            self.told([0, 0, 0, 0, 0, 0, 0, 1 << who], begin(me, 16, 0), message(who, WANTED))

    def test_bits_of_several_hosts(self):
        self.told([0, 0, 1, 0, 3, 0, 32768 + 8 + 1, 4 + 8 + 16384], begin(1, 16, 0), want(15), want(0), want(3),
                  message(14, WANTED), message(2, WANTED), message(3, WANTED))
        self.told([0, 0, 1, 0, 15, 0, 65534, 65534], begin(0, 16, 0), *[want(who) for who in range(1, 16)],
                  *[message(who, WANTED) for who in range(1, 16)])

    def test_all_at_once(self):
        self.told([1, 1, 1, 1, 3, 1, 32768, 32768 + 2], begin(0, 16, 0), WATCH, message(1, token(0, 0)), want(15),
                  message(15, WANTED), message(1, WANTED), SUSPECT, message(15, probe(0, 1)), message(3, work(6)))

    def test_it_stands_behind_0(self):
        self.assertEqual(len(last(begin(0, 2, 0), TOLD)), 9)


if __name__ == "__main__":
    unittest.main()
