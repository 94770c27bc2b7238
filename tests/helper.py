"""What the tests share: calls written as the interface asks, and a look at all that a host keeps."""

from idlehosts.calls import dt_begin, dt_send
from idlehosts.kept import Host, Recording, Token


def begin(me, n, active):
    return [0, me, n, active]


def state(row):
    return [1, len(row)] + row


def send(to, row):
    return [2, to, len(row)] + row


IDLE = [3]
WATCH = [4]
SNAPSHOT = [5]


def want(who):
    return [6, who]


def listed(*calls):
    """One list of calls, as answers takes it."""
    return [number for call in calls for number in call]


def alone(*firsts):
    """The answers of calls that each answer one number."""
    return [number for first in firsts for number in (1, first)]


def new_host(me, n, active):
    host = Host()
    if dt_begin(host, me, n, active) != [0]:
        raise AssertionError("the host didn't begin")
    return host


def host_with_waiting(me, n, how_many):
    """An active host with so many messages that wait to go out, put there by dt_send alone."""
    host = new_host(me, n, 1)
    other = 1 if me == 0 else 0
    while len(host.outgoing) < how_many:
        if dt_send(host, other, []) != [0]:
            raise AssertionError("a work wasn't sent")
    return host


def everything(value):
    """All that a host keeps, as plain values that later calls can't touch."""
    if isinstance(value, (Host, Recording, Token)):
        return {name: everything(kept) for name, kept in vars(value).items()}
    if isinstance(value, dict):
        return {key: everything(kept) for key, kept in value.items()}
    if isinstance(value, (list, tuple)):
        return [everything(kept) for kept in value]
    return value
