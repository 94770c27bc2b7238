"""The way in: a list of calls on one host goes in, the list of their answers comes out."""

from idlehosts.calls import dt_begin, dt_idle, dt_send, dt_snapshot, dt_state, dt_want, dt_watch
from idlehosts.kept import Host

BEGIN = 0
STATE = 1
SEND = 2
IDLE = 3
WATCH = 4
SNAPSHOT = 5
WANT = 6


class UnknownCall(ValueError):
    pass


class Reader:
    def __init__(self, numbers):
        self.numbers = numbers
        self.at = 0

    def has_more(self):
        return self.at < len(self.numbers)

    def take_number(self):
        number = self.numbers[self.at]
        self.at = self.at + 1
        return number

    def take_row(self):
        size = self.take_number()
        row = self.numbers[self.at:self.at + size]
        self.at = self.at + size
        return row


def answer_one(host, reader):
    call = reader.take_number()
    if call == BEGIN:
        return dt_begin(host, reader.take_number(), reader.take_number(), reader.take_number())
    if call == STATE:
        return dt_state(host, reader.take_row())
    if call == SEND:
        return dt_send(host, reader.take_number(), reader.take_row())
    if call == IDLE:
        return dt_idle(host)
    if call == WATCH:
        return dt_watch(host)
    if call == SNAPSHOT:
        return dt_snapshot(host)
    if call == WANT:
        return dt_want(host, reader.take_number())
    raise UnknownCall(f"no call has the number {call}")


def answers_on(host, calls):
    reader = Reader(calls)
    told = []
    while reader.has_more():
        answer = answer_one(host, reader)
        told.append(len(answer))
        told.extend(answer)
    return told


def answers(calls):
    return answers_on(Host(), calls)
