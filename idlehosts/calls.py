"""The calls on a host: each one's refusals in the order told, then what it does and answers."""

from idlehosts.incoming import is_right, message_comes
from idlehosts.messages import MOST_BYTES

NO_ROOM = -1
WRONG = -2
NOT_NOW = -3
TOO_MANY = -4

MOST_HOSTS = 16
MOST_MESSAGE = 8192
MOST_WAITING = 1024
LAST_NUMBER = 4294967295
TOLD_BELOW = 2147483648


def dt_begin(host, me, n, active):
    if n < 2 or n > MOST_HOSTS or me < 0 or me >= n:
        return [WRONG]
    host.begin(me, n, active != 0)
    return [0]


def dt_state(host, row):
    if len(row) > MOST_BYTES:
        return [WRONG]
    host.state = row
    return [0]


def dt_send(host, to, row):
    if not host.is_other(to) or len(row) > MOST_BYTES:
        return [WRONG]
    if not host.active:
        return [NOT_NOW]
    if host.is_busy():
        return [TOO_MANY]
    host.send_work(to, row)
    return [0]


def dt_idle(host):
    if not host.active or len(host.works) > 0:
        return [NOT_NOW]
    if host.is_busy():
        return [TOO_MANY]
    host.become_idle()
    return [0]


def dt_watch(host):
    if host.me != 0 or host.watching:
        return [NOT_NOW]
    if host.is_busy():
        return [TOO_MANY]
    host.watch()
    return [0]


def dt_snapshot(host):
    if host.cut_number > 0 and not host.last_cut_is_whole():
        return [NOT_NOW]
    if host.is_busy() or host.cut_number == LAST_NUMBER:
        return [TOO_MANY]
    host.begin_cut()
    return [host.cut_number % TOLD_BELOW]


def dt_want(host, who):
    if not host.is_other(who):
        return [WRONG]
    if host.waits[who]:
        return [NOT_NOW]
    if host.is_busy():
        return [TOO_MANY]
    host.want(who)
    return [0]


def dt_grant(host, who):
    if not host.is_other(who):
        return [WRONG]
    if not host.owes[who] or host.is_blocked():
        return [NOT_NOW]
    if host.is_busy():
        return [TOO_MANY]
    host.grant(who)
    return [0]


def dt_suspect(host):
    if not host.is_blocked():
        return [NOT_NOW]
    if host.is_busy() or host.suspect_number == LAST_NUMBER:
        return [TOO_MANY]
    host.suspect()
    return [0]


def dt_message(host, sender, row):
    if not host.is_other(sender) or len(row) > MOST_MESSAGE:
        return [WRONG]
    if host.is_busy() or len(host.works) >= MOST_WAITING:
        return [TOO_MANY]
    if not is_right(row, host.n):
        return [NOT_NOW]
    message_comes(host, sender, row)
    return [0]


def take_first(pairs, most):
    host_number = pairs[0][0]
    row = pairs[0][1]
    if len(row) > most:
        return [NO_ROOM]
    pairs.pop(0)
    return [len(row), host_number] + row


def dt_output(host, most):
    if most < 0:
        return [WRONG]
    if len(host.outgoing) == 0:
        return [0]
    return take_first(host.outgoing, most)


def dt_take(host, most):
    if most < 0:
        return [WRONG]
    if len(host.works) == 0:
        return [NOT_NOW]
    return take_first(host.works, most)


def dt_cut(host, most):
    if most < 0:
        return [WRONG]
    if host.cut_number == 0 or not host.last_cut_is_whole():
        return [NOT_NOW]
    row = host.cut_bytes()
    if len(row) > most:
        return [NO_ROOM]
    return [len(row)] + row


def as_bits(marks):
    bits = 0
    for mark in reversed(marks):
        bits = bits * 2 + (1 if mark else 0)
    return bits


def dt_told(host):
    states = [host.active, host.found, host.is_blocked(), host.locked]
    counts = [len(host.outgoing), len(host.works)]
    return [0] + [1 if state else 0 for state in states] + counts + [as_bits(host.waits), as_bits(host.owes)]
