"""Hosts that work together: messages go from one to another, and what they find out is held against what is so."""

import random
import unittest

from idlehosts.host import answers
from tests.helper import (IDLE, SNAPSHOT, SUSPECT, TOLD, WATCH, begin, cut, grant, listed, message, output, send, split,
                          state, take, want)


class Hosts:
    """n hosts, each a list of calls that is answered anew as a whole; the ways between them are lists."""

    def __init__(self, case, n, active):
        self.case = case
        self.n = n
        self.calls = [[begin(me, n, active)] for me in range(n)]
        self.told = [[[0]] for me in range(n)]
        self.ways = {}

    def ask(self, me, call):
        self.calls[me].append(call)
        rows = split(answers(listed(*self.calls[me])))
        self.case.assertEqual(rows[:-1], self.told[me])
        self.told[me] = rows
        return rows[-1]

    def sure(self, me, call):
        self.case.assertGreaterEqual(self.ask(me, call)[0], 0)

    def collect(self, me):
        row = self.ask(me, output())
        while row != [0]:
            self.ways.setdefault((me, row[1]), []).append(row[2:])
            row = self.ask(me, output())

    def full_ways(self):
        return sorted(way for way, rows in self.ways.items() if rows)

    def deliver(self, way):
        self.sure(way[1], message(way[0], self.ways[way].pop(0)))
        self.collect(way[1])

    def deliver_all(self, chance):
        while self.full_ways():
            self.deliver(chance.choice(self.full_ways()))

    def works_under_way(self):
        return [row for rows in self.ways.values() for row in rows if row[0] == 1]


def read_cut(case, row, n):
    """Of each host: too much, state, works."""
    case.assertEqual(row[0], len(row) - 1)
    at = 1
    records = []
    for host in range(n):
        too_much, size = row[at], row[at + 1]
        state_row = row[at + 2:at + 2 + size]
        at = at + 2 + size
        left = row[at]
        at = at + 1
        works = []
        for number in range(left):
            works.append((row[at], row[at + 2:at + 2 + row[at + 1]]))
            at = at + 2 + row[at + 1]
        records.append((too_much, state_row, works))
    case.assertEqual(at, len(row))
    return records


class AllIdle(unittest.TestCase):
    def run_once(self, n, seed):
        chance = random.Random(seed)
        hosts = Hosts(self, n, 1)
        hosts.sure(0, WATCH)
        left = 4 * n
        while not hosts.ask(0, TOLD)[2]:
            me = chance.randrange(n)
            told = hosts.ask(me, TOLD)
            if told[6]:
                hosts.sure(me, take())
            elif told[1] and left and chance.randrange(2):
                left = left - 1
                hosts.sure(me, send((me + 1 + chance.randrange(n - 1)) % n, [left]))
            elif told[1] and chance.randrange(2):
                hosts.sure(me, IDLE)
            hosts.collect(me)
            if hosts.full_ways() and chance.randrange(2):
                hosts.deliver(chance.choice(hosts.full_ways()))
            self.assertLess(max(len(calls) for calls in hosts.calls), 400)
        self.assertEqual(hosts.works_under_way(), [])
        for me in range(n):
            self.assertEqual(hosts.ask(me, TOLD)[1], 0)
            self.assertEqual(hosts.ask(me, TOLD)[6], 0)

    def test_found_only_when_it_is_so_and_in_the_end(self):
        for n, seed in ((2, 1), (2, 2), (3, 3), (3, 4), (4, 5), (5, 6)):
            self.run_once(n, seed)


class Cut(unittest.TestCase):
    COINS = 40

    def pay(self, hosts, coins, me, chance):
        """A work is some coins; what a host has left is its state."""
        to = (me + 1 + chance.randrange(hosts.n - 1)) % hosts.n
        paid = chance.randrange(coins[me] + 1)
        coins[me] = coins[me] - paid
        hosts.sure(me, state([coins[me]]))
        hosts.sure(me, send(to, [paid]))
        hosts.collect(me)

    def earn(self, hosts, coins, chance):
        way = chance.choice(hosts.full_ways())
        row = hosts.ways[way][0]
        hosts.deliver(way)
        # The state is as of all that came: a marker behind this work must find it there.
        if row[0] == 1:
            coins[way[1]] = coins[way[1]] + row[1]
            hosts.sure(way[1], state([coins[way[1]]]))

    def run_once(self, n, seed, wanting):
        chance = random.Random(seed)
        hosts = Hosts(self, n, 1)
        coins = [self.COINS] * n
        for me in range(n):
            hosts.sure(me, state([self.COINS]))
        wholes = 0
        for step in range(60):
            me = chance.randrange(n)
            if step % 20 == 10:
                for who in wanting:
                    hosts.sure(who, SNAPSHOT)
                    hosts.collect(who)
            if chance.randrange(3):
                self.pay(hosts, coins, me, chance)
            if hosts.full_ways() and chance.randrange(3):
                self.earn(hosts, coins, chance)
            if step % 20 == 19:
                while hosts.full_ways():
                    self.earn(hosts, coins, chance)
                wholes = wholes + sum(self.look(hosts, who) for who in wanting)
        self.assertEqual(wholes, 3 * len(wanting))

    def look(self, hosts, who):
        records = read_cut(self, hosts.ask(who, cut()), hosts.n)
        self.assertEqual([too_much for too_much, state_row, works in records], [0] * hosts.n)
        had = sum(state_row[0] for too_much, state_row, works in records)
        under_way = sum(row[0] for too_much, state_row, works in records for sender, row in works)
        self.assertEqual(had + under_way, self.COINS * hosts.n)
        return 1

    def test_no_coin_is_lost_or_made(self):
        for n, seed, wanting in ((2, 1, [0]), (2, 2, [0, 1]), (3, 3, [2]), (3, 4, [0, 1, 2]), (4, 5, [1, 3])):
            self.run_once(n, seed, wanting)


class Circle(unittest.TestCase):
    def locked(self, hosts):
        return [hosts.ask(me, TOLD)[4] for me in range(hosts.n)]

    def hosts_that_want(self, n, wants, seed):
        chance = random.Random(seed)
        hosts = Hosts(self, n, 0)
        for me, who in wants:
            hosts.sure(me, want(who))
            hosts.collect(me)
        hosts.deliver_all(chance)
        for me in range(n):
            if hosts.ask(me, TOLD)[3]:
                hosts.sure(me, SUSPECT)
                hosts.collect(me)
        hosts.deliver_all(chance)
        return hosts

    def test_all_in_a_circle(self):
        for n in (2, 3, 16):
            hosts = self.hosts_that_want(n, [(me, (me + 1) % n) for me in range(n)], n)
            self.assertEqual(self.locked(hosts), [1] * n)

    def test_a_row_without_a_circle(self):
        hosts = self.hosts_that_want(5, [(me, me + 1) for me in range(4)], 1)
        self.assertEqual(self.locked(hosts), [0] * 5)
        hosts.sure(4, grant(3))
        hosts.collect(4)
        hosts.deliver_all(random.Random(2))
        self.assertEqual(hosts.ask(3, TOLD)[3], 0)
        hosts.sure(3, grant(2))

    def test_one_that_waits_for_a_circle_is_not_in_it(self):
        hosts = self.hosts_that_want(5, [(1, 2), (2, 3), (3, 1), (0, 1), (1, 4)], 3)
        self.assertEqual(self.locked(hosts), [0, 1, 1, 1, 0])

    def test_two_circles(self):
        hosts = self.hosts_that_want(6, [(0, 1), (1, 0), (5, 2), (2, 3), (3, 5), (4, 0), (4, 5)], 4)
        self.assertEqual(self.locked(hosts), [1, 1, 1, 1, 0, 1])


if __name__ == "__main__":
    unittest.main()
