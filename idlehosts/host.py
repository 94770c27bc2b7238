"""The way in: a list of calls on one host goes in, the list of their answers comes out."""

from idlehosts.calls import (dt_begin, dt_cut, dt_grant, dt_idle, dt_message, dt_output, dt_send, dt_snapshot, dt_state,
                             dt_suspect, dt_take, dt_told, dt_want, dt_watch)
from idlehosts.kept import Host

BEGIN = 0
STATE = 1
SEND = 2
IDLE = 3
WATCH = 4
SNAPSHOT = 5
WANT = 6
GRANT = 7
SUSPECT = 8
MESSAGE = 9
OUTPUT = 10
TAKE = 11
CUT = 12
TOLD = 13


class UnknownCall(ValueError):
    pass


class Reader:
    def __init__(self, numbers):
        self.numbers = numbers
        self.at = 0

    def has_more(self):
        return self.at < len(self.numbers)

    def take_number(self):
        number = self.numbers[self.at]
        self.at = self.at + 1
        return number

    def take_row(self):
        size = self.take_number()
        row = self.numbers[self.at:self.at + size]
        self.at = self.at + size
        return row


def answer_one(host, reader):
    call = reader.take_number()
    if call == BEGIN:
        return dt_begin(host, reader.take_number(), reader.take_number(), reader.take_number())
    if call == STATE:
        return dt_state(host, reader.take_row())
    if call == SEND:
        return dt_send(host, reader.take_number(), reader.take_row())
    if call == IDLE:
        return dt_idle(host)
    if call == WATCH:
        return dt_watch(host)
    if call == SNAPSHOT:
        return dt_snapshot(host)
    if call == WANT:
        return dt_want(host, reader.take_number())
    if call == GRANT:
        return dt_grant(host, reader.take_number())
    if call == SUSPECT:
        return dt_suspect(host)
    if call == MESSAGE:
        return dt_message(host, reader.take_number(), reader.take_row())
    if call == OUTPUT:
        return dt_output(host, reader.take_number())
    if call == TAKE:
        return dt_take(host, reader.take_number())
    if call == CUT:
        return dt_cut(host, reader.take_number())
    if call == TOLD:
        return dt_told(host)
    raise UnknownCall(f"no call has the number {call}")


def answers_on(host, calls):
    reader = Reader(calls)
    told = []
    while reader.has_more():
        answer = answer_one(host, reader)
        told.append(len(answer))
        told.extend(answer)
    return told


def answers(calls):
    return answers_on(Host(), calls)
