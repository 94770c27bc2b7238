"""How each message is written, byte by byte."""

WORK = 1
TOKEN = 2
MARKER = 3
RECORD = 4
WANT = 5
GRANT = 6
PROBE = 7

MOST_BYTES = 64
MOST_WORKS = 64


def four_bytes(number):
    # A sum below 0 is kept as 2^32 more, and written so it is in two's complement.
    return [number % 256, number // 256 % 256, number // 65536 % 256, number // 16777216 % 256]


def number_at(message, at):
    return message[at] + message[at + 1] * 256 + message[at + 2] * 65536 + message[at + 3] * 16777216


def work_message(row):
    return [WORK] + row


def token_message(black, total):
    return [TOKEN, 1 if black else 0] + four_bytes(total)


def marker_message(who, number):
    return [MARKER, who] + four_bytes(number)


def record_message(number, record):
    return [RECORD] + four_bytes(number) + record


def want_message():
    return [WANT]


def grant_message():
    return [GRANT]


def probe_message(who, number):
    return [PROBE, who] + four_bytes(number)


def record_bytes(too_much, state, works):
    # A record without its number: this is what the message ends with, and what the cut is told in.
    record = [1 if too_much else 0, len(state)] + state + [len(works)]
    for work in works:
        record.extend([work[0], len(work[1])] + work[1])
    return record
