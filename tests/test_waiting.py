"""Waiting in a circle and point 6: who waits, who owes, grants, suspects and probes, through answers."""

import unittest

from idlehosts.calls import dt_message, dt_suspect, dt_want
from tests.helper import (GRANTED, GREATEST, IDLE, LAST_NUMBER, SMALLEST, SUSPECT, TOLD, WANTED, CallCase, begin, each,
                          grant, last, message, new_host, newly_sent, probe, send, sent, want, work)


def locked(*calls):
    return last(*calls, TOLD)[4]


class Owes(CallCase):
    def test_who_is_wanted_owes_till_it_grants(self):
        self.assertEqual(each(begin(0, 4, 0), message(2, WANTED), TOLD, grant(2), TOLD, grant(2))[2:],
                         [[0, 0, 0, 0, 0, 0, 0, 0, 4], [0], [0, 0, 0, 0, 0, 1, 0, 0, 0], [-3]])

    def test_wanted_twice_is_owed_once(self):
        self.same_behind([begin(0, 3, 0), message(2, WANTED)], message(2, WANTED), [0])
        self.refused_behind([begin(0, 3, 0), message(2, WANTED), message(2, WANTED), grant(2)], grant(2), -3)

    def test_wanted_anew(self):
        self.assertEqual(sent(begin(0, 3, 0), message(2, WANTED), grant(2), message(2, WANTED), grant(2)),
                         [(2, GRANTED), (2, GRANTED)])


class Grant(CallCase):
    def test_it_goes_to_whom_it_is_owed(self):
        for who in (0, 2, 15):
            self.assertEqual(sent(begin(1, 16, 0), message(who, WANTED), grant(who)), [(who, GRANTED)])
        self.assertEqual(sent(begin(1, 4, 1), message(3, WANTED), message(0, WANTED), grant(0), grant(3)),
                         [(0, GRANTED), (3, GRANTED)])

    def test_no_other_host(self):
        for who in (SMALLEST, -1, 1, 3, 16, GREATEST):
            self.refused_behind([begin(1, 3, 0), message(2, WANTED)], grant(who), -2)
            self.refused_behind([begin(1, 3, 0), message(2, WANTED), want(0)], grant(who), -2)

    def test_nothing_is_owed(self):
        self.refused_behind([begin(1, 3, 0)], grant(0), -3)
        self.refused_behind([begin(1, 3, 0), message(2, WANTED)], grant(0), -3)

    def test_not_while_blocked(self):
        for who in (0, 2):
            self.refused_behind([begin(1, 3, 0), message(2, WANTED), want(who)], grant(2), -3)
        self.refused_behind([begin(1, 3, 0), message(2, WANTED), want(0), want(2), message(0, GRANTED)], grant(2), -3)

    def test_when_blocked_no_more(self):
        before = [begin(1, 3, 0), message(2, WANTED), want(0), want(2), message(0, GRANTED), message(2, GRANTED)]
        self.assertEqual(newly_sent(before, grant(2)), [(2, GRANTED)])


class Waits(CallCase):
    def test_till_the_grant_comes(self):
        self.assertEqual(each(begin(0, 4, 0), want(2), want(3), TOLD, message(2, GRANTED), TOLD, message(3, GRANTED),
                              TOLD)[3::2],
                         [[0, 0, 0, 1, 0, 2, 0, 12, 0], [0, 0, 0, 1, 0, 2, 0, 8, 0], [0, 0, 0, 0, 0, 2, 0, 0, 0]])

    def test_a_grant_that_nobody_waits_for(self):
        self.same_behind([begin(0, 3, 0)], message(1, GRANTED), [0])
        self.same_behind([begin(0, 3, 0), want(2)], message(1, GRANTED), [0])
        self.same_behind([begin(0, 3, 0), message(1, WANTED)], message(1, GRANTED), [0])

    def test_wanted_anew(self):
        self.assertEqual(sent(begin(0, 3, 0), want(2), message(2, GRANTED), want(2)), [(2, WANTED), (2, WANTED)])

    def test_waiting_is_not_owing(self):
        self.assertEqual(each(begin(0, 3, 0), want(2), message(1, WANTED), TOLD)[3][7:], [4, 2])

    def test_active_or_idle_is_all_one(self):
        self.assertEqual(last(begin(0, 2, 1), want(1), send(1, []), IDLE, message(1, work()), TOLD),
                         [0, 1, 0, 1, 0, 2, 1, 2, 0])


class Suspect(CallCase):
    def test_probe_to_all_whom_it_waits_for_by_number(self):
        before = [begin(2, 5, 0), want(4), want(0), want(3)]
        self.assertEqual(newly_sent(before, SUSPECT), [(0, probe(2, 1)), (3, probe(2, 1)), (4, probe(2, 1))])
        self.assertEqual(newly_sent(before + [message(3, GRANTED)], SUSPECT), [(0, probe(2, 1)), (4, probe(2, 1))])

    def test_sixteen_hosts(self):
        before = [begin(15, 16, 0)] + [want(who) for who in range(15)]
        self.assertEqual(newly_sent(before, SUSPECT), [(to, probe(15, 1)) for to in range(15)])

    def test_numbers_one_behind_another(self):
        before = [begin(0, 2, 0), want(1)]
        self.assertEqual(newly_sent(before, SUSPECT, SUSPECT, message(1, GRANTED), want(1), SUSPECT),
                         [(1, probe(0, 1)), (1, probe(0, 2)), (1, WANTED), (1, probe(0, 3))])

    def test_others_probes_leave_its_numbers(self):
        before = [begin(0, 2, 0), want(1), message(1, WANTED), message(1, probe(1, 40)), message(1, probe(0, 50))]
        self.assertEqual(newly_sent(before, SUSPECT), [(1, probe(0, 1))])

    def test_not_blocked(self):
        self.refused_behind([begin(0, 2, 0)], SUSPECT, -3)
        self.refused_behind([begin(0, 2, 0), message(1, WANTED)], SUSPECT, -3)
        self.refused_behind([begin(0, 2, 0), want(1), message(1, GRANTED)], SUSPECT, -3)

    def test_a_refused_one_takes_no_number(self):
        self.assertEqual(newly_sent([begin(0, 2, 0), SUSPECT, want(1)], SUSPECT), [(1, probe(0, 1))])

    def test_it_is_not_locked_by_that(self):
        self.assertEqual(locked(begin(0, 2, 0), want(1), message(1, WANTED), SUSPECT), 0)

    def test_last_number(self):
        host = new_host(0, 2, 0)
        dt_want(host, 1)
        host.suspect_number = LAST_NUMBER - 1
        self.assertEqual(dt_suspect(host), [0])
        self.assertEqual(host.outgoing[-1], (1, [7, 0, 255, 255, 255, 255]))
        self.refused(host, dt_suspect, (), -4)
        dt_message(host, 1, GRANTED)
        self.refused(host, dt_suspect, (), -3)

    def test_number_is_little_endian(self):
        host = new_host(0, 2, 0)
        dt_want(host, 1)
        host.suspect_number = 0x84030200
        dt_suspect(host)
        self.assertEqual(host.outgoing[-1], (1, [7, 0, 1, 2, 3, 0x84]))


class Probes(CallCase):
    # It waits for 0 and 4, and owes 1 and 3.
    BEFORE = [begin(2, 5, 0), want(4), want(0), message(1, WANTED), message(3, WANTED)]

    def goes_on(self, before, sender, who, number):
        self.assertEqual(newly_sent(before, message(sender, probe(who, number))),
                         [(0, probe(who, number)), (4, probe(who, number))])

    def nothing(self, before, sender, who, number):
        self.same_behind(before, message(sender, probe(who, number)), [0])

    def test_one_that_counts_goes_on(self):
        for sender in (1, 3):
            for who in (0, 1, 3, 4):
                for number in (0, 1, 77, LAST_NUMBER):
                    self.goes_on(self.BEFORE, sender, who, number)

    def test_it_is_not_locked_by_anothers(self):
        self.assertEqual(locked(*self.BEFORE, message(1, probe(3, 1))), 0)

    def test_not_blocked(self):
        before = [begin(2, 5, 0), message(1, WANTED), message(3, WANTED)]
        self.nothing(before, 1, 3, 1)
        self.nothing(before, 1, 2, 1)
        self.nothing(self.BEFORE + [message(0, GRANTED), message(4, GRANTED)], 1, 2, 1)

    def test_owes_not_whom_it_comes_from(self):
        for sender in (0, 4):
            for who in (0, 1, 2, 3, 4):
                self.nothing(self.BEFORE, sender, who, 1)

    def test_the_same_number_a_smaller_and_a_greater(self):
        before = self.BEFORE + [message(1, probe(4, 7))]
        for sender in (1, 3):
            for number in (0, 1, 6, 7):
                self.nothing(before, sender, 4, number)
            for number in (8, 300, LAST_NUMBER):
                self.goes_on(before, sender, 4, number)

    def test_the_greatest_that_counted(self):
        before = self.BEFORE + [message(1, probe(4, 7)), message(1, probe(4, 256)), message(1, probe(4, 8))]
        for number in (0, 7, 8, 9, 255, 256):
            self.nothing(before, 1, 4, number)
        self.goes_on(before, 1, 4, 257)

    def test_number_0_counts_once(self):
        self.nothing(self.BEFORE + [message(1, probe(4, 0))], 1, 4, 0)
        self.goes_on(self.BEFORE + [message(1, probe(4, 0))], 1, 4, 1)

    def test_of_another_who_it_counts(self):
        before = self.BEFORE + [message(1, probe(4, 7))]
        self.goes_on(before, 1, 3, 7)
        self.goes_on(before, 1, 0, 1)

    def test_one_that_did_not_count_leaves_the_next(self):
        not_owed = [begin(2, 5, 0), want(4), want(0), message(1, probe(3, 9)), message(1, WANTED)]
        self.goes_on(not_owed, 1, 3, 9)
        not_blocked = [begin(2, 5, 0), message(1, WANTED), message(1, probe(3, 9)), want(4), want(0)]
        self.goes_on(not_blocked, 1, 3, 9)

    def test_the_own_suspects_do_not_count(self):
        self.assertEqual(locked(*self.BEFORE, SUSPECT, SUSPECT, message(1, probe(2, 1))), 1)

    def test_it_is_remembered_when_it_waits_anew(self):
        before = self.BEFORE + [message(1, probe(3, 9)), message(0, GRANTED), message(4, GRANTED), want(0), want(4)]
        self.nothing(before, 1, 3, 9)
        self.goes_on(before, 1, 3, 10)


class Locked(CallCase):
    BEFORE = [begin(2, 3, 0), want(0), message(1, WANTED), SUSPECT]

    def test_the_own_probe_that_counts(self):
        self.assertEqual(locked(*self.BEFORE), 0)
        self.assertEqual(locked(*self.BEFORE, message(1, probe(2, 1))), 1)

    def test_it_goes_no_further(self):
        self.assertEqual(newly_sent(self.BEFORE, message(1, probe(2, 1))), [])

    def test_the_own_probe_that_does_not_count(self):
        self.assertEqual(locked(*self.BEFORE, message(0, probe(2, 1))), 0)
        self.assertEqual(locked(*self.BEFORE, message(0, GRANTED), message(1, probe(2, 1))), 0)
        self.assertEqual(locked(*self.BEFORE, message(0, GRANTED), grant(1), want(0), message(1, probe(2, 1))), 0)

    def test_it_stays_so(self):
        before = self.BEFORE + [message(1, probe(2, 1)), message(0, GRANTED)]
        self.assertEqual(locked(*before), 1)
        self.assertEqual(last(*before, grant(1), TOLD), [0, 0, 0, 0, 1, 3, 0, 0, 0])
        self.assertEqual(locked(*before, grant(1), message(1, work()), want(1)), 1)

    def test_it_waits_and_suspects_as_before(self):
        before = self.BEFORE + [message(1, probe(2, 1))]
        self.refused_behind(before, want(0), -3)
        self.refused_behind(before, grant(1), -3)
        self.assertEqual(newly_sent(before, SUSPECT), [(0, probe(2, 2))])
        self.assertEqual(newly_sent(before, message(1, probe(1, 1))), [(0, probe(1, 1))])

    def test_two_hosts(self):
        self.assertEqual(locked(begin(0, 2, 0), want(1), message(1, WANTED), SUSPECT, message(1, probe(0, 1))), 1)


if __name__ == "__main__":
    unittest.main()
