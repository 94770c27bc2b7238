"""What the tests share: calls and messages written as the document asks, and a look at all that a host keeps."""

import unittest

from idlehosts.calls import dt_begin, dt_send
from idlehosts.host import answers, answers_on
from idlehosts.kept import Host, Recording, Token

SMALLEST = -2147483648
GREATEST = 2147483647
LAST_NUMBER = 4294967295


def begin(me, n, active):
    return [0, me, n, active]


def state(row):
    return [1, len(row)] + row


def send(to, row):
    return [2, to, len(row)] + row


IDLE = [3]
WATCH = [4]
SNAPSHOT = [5]


def want(who):
    return [6, who]


def grant(who):
    return [7, who]


SUSPECT = [8]


def message(sender, row):
    return [9, sender, len(row)] + row


def output(most=GREATEST):
    return [10, most]


def take(most=GREATEST):
    return [11, most]


def cut(most=GREATEST):
    return [12, most]


TOLD = [13]


def b4(number):
    return list((number % 2 ** 32).to_bytes(4, "little"))


def work(*row):
    return [1] + list(row)


def token(black, total):
    return [2, black] + b4(total)


def marker(who, number):
    return [3, who] + b4(number)


def recorded(too_much, state_row, *works):
    """A record from "too much" on; a work is a pair of from and bytes."""
    row = [too_much, len(state_row)] + state_row + [len(works)]
    for sender, work_row in works:
        row = row + [sender, len(work_row)] + work_row
    return row


def record(number, too_much, state_row, *works):
    return [4] + b4(number) + recorded(too_much, state_row, *works)


WANTED = [5]
GRANTED = [6]


def probe(who, number):
    return [7, who] + b4(number)


def listed(*calls):
    """One list of calls, as answers takes it."""
    return [number for call in calls for number in call]


def split(told):
    """What answers gave back, a list for each call."""
    rows = []
    at = 0
    while at < len(told):
        rows.append(told[at + 1:at + 1 + told[at]])
        at = at + 1 + told[at]
    return rows


def each(*calls):
    """What each of these calls answers."""
    return split(answers(listed(*calls)))


def last(*calls):
    return each(*calls)[-1]


def sent(*calls):
    """All that waits to go out behind these calls: pairs of for whom and bytes."""
    waiting = last(*calls, TOLD)[5]
    rows = each(*calls, *[output()] * (waiting + 1))[len(calls):]
    if rows[-1] != [0]:
        raise AssertionError("more goes out than dt_told tells")
    return [(row[1], row[2:]) for row in rows[:-1]]


def newly_sent(before, *calls):
    """What these calls, behind those before, put behind all that waits to go out."""
    old = sent(*before)
    both = sent(*before, *calls)
    if both[:len(old)] != old:
        raise AssertionError("what waited has changed")
    return both[len(old):]


def waiting_16(me, how_many):
    """Calls behind which so many messages (15 or more) of an active host of 16 wait to go out; it waits for all."""
    others = [who for who in range(16) if who != me]
    calls = [begin(me, 16, 1)] + [want(who) for who in others]
    left = how_many - 15
    return calls + [SUSPECT] * (left // 15) + [send(others[0], [])] * (left % 15)


def waiting_2(me, how_many):
    """Calls behind which so many messages of an active host of 2 wait to go out; it waits for nobody."""
    other = 1 - me
    calls = [begin(me, 2, 1)] + [message(other, marker(other, number)) for number in range(how_many // 2)]
    return calls + [send(other, [])] * (how_many % 2)


def alone(*firsts):
    """The answers of calls that each answer one number."""
    return [number for first in firsts for number in (1, first)]


def new_host(me, n, active):
    host = Host()
    if dt_begin(host, me, n, active) != [0]:
        raise AssertionError("the host didn't begin")
    return host


def host_behind(*calls):
    host = Host()
    answers_on(host, listed(*calls))
    return host


def host_with_waiting(me, n, how_many):
    """An active host with so many messages that wait to go out, put there by dt_send alone."""
    host = new_host(me, n, 1)
    other = 1 if me == 0 else 0
    while len(host.outgoing) < how_many:
        if dt_send(host, other, []) != [0]:
            raise AssertionError("a work wasn't sent")
    return host


def everything(value):
    """All that a host keeps, as plain values that later calls can't touch."""
    if isinstance(value, (Host, Recording, Token)):
        return {name: everything(kept) for name, kept in vars(value).items()}
    if isinstance(value, dict):
        return {key: everything(kept) for key, kept in value.items()}
    if isinstance(value, (list, tuple)):
        return [everything(kept) for kept in value]
    return value


# Calls that bring to light much of what a host has: they are asked behind a refused call and without it.
LOOKS = ([TOLD, cut(), take(), take(), TOLD, IDLE, WATCH, SNAPSHOT, SUSPECT, message(0, GRANTED), message(1, GRANTED)]
         + [output()] * 60 + [TOLD])


class CallCase(unittest.TestCase):
    def answered(self, calls, firsts):
        self.assertEqual(answers(listed(*calls)), alone(*firsts))

    def refused(self, host, call, values, refusal):
        before = everything(host)
        self.assertEqual(call(host, *values), [refusal])
        self.assertEqual(everything(host), before)

    def refused_behind(self, before, call, refusal):
        """Through answers: the refusal stands alone, and what is asked behind it is answered as if it weren't there."""
        told = each(*before, call, *LOOKS)
        self.assertEqual(told[len(before)], [refusal])
        self.assertEqual(told[:len(before)] + told[len(before) + 1:], each(*before, *LOOKS))
        host = host_behind(*before)
        kept = everything(host)
        self.assertEqual(answers_on(host, list(call)), [1, refusal])
        self.assertEqual(everything(host), kept)

    def same_behind(self, before, call, answer):
        """The call is answered so, and leaves all as it was."""
        host = host_behind(*before)
        kept = everything(host)
        self.assertEqual(split(answers_on(host, list(call))), [answer])
        self.assertEqual(everything(host), kept)
        self.assertEqual(last(*before, call), answer)
