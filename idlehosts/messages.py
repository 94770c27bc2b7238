"""How each message is written, byte by byte."""

WORK = 1
TOKEN = 2
MARKER = 3
WANT = 5


def four_bytes(number):
    # A sum below 0 is kept as 2^32 more, and written so it is in two's complement.
    return [number % 256, number // 256 % 256, number // 65536 % 256, number // 16777216 % 256]


def work_message(row):
    return [WORK] + row


def token_message(black, total):
    return [TOKEN, 1 if black else 0] + four_bytes(total)


def marker_message(who, number):
    return [MARKER, who] + four_bytes(number)


def want_message():
    return [WANT]
