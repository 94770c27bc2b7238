"""A message that comes: when it is right, and which move of the host it is."""

from idlehosts.messages import GRANT, MARKER, MOST_BYTES, MOST_WORKS, PROBE, RECORD, TOKEN, WANT, WORK, number_at

# A token, a marker and a probe: kind, one byte, four bytes.
SIX_BYTES = 6
# A record: kind and number stand ahead of these.
TOO_MUCH_AT = 5
STATE_AT = 6


# None is the end of what isn't right: no place in a message is equal to it.
def end_of_row(message, at):
    if at >= len(message) or message[at] > MOST_BYTES:
        return None
    end = at + 1 + message[at]
    return end if end <= len(message) else None


def end_of_works(message, at, n):
    if at >= len(message) or message[at] > MOST_WORKS:
        return None
    left = message[at]
    end = at + 1
    while left > 0:
        if end >= len(message) or message[end] >= n:
            return None
        end = end_of_row(message, end + 1)
        if end is None:
            return None
        left = left - 1
    return end


def is_right_record(message, n):
    if len(message) <= TOO_MUCH_AT or message[TOO_MUCH_AT] > 1:
        return False
    at = end_of_row(message, STATE_AT)
    return at is not None and end_of_works(message, at, n) == len(message)


def is_right(message, n):
    if len(message) == 0:
        return False
    kind = message[0]
    if kind == WORK:
        return len(message) <= 1 + MOST_BYTES
    if kind == TOKEN:
        return len(message) == SIX_BYTES and message[1] <= 1
    if kind == MARKER or kind == PROBE:
        return len(message) == SIX_BYTES and message[1] < n
    if kind == RECORD:
        return is_right_record(message, n)
    return (kind == WANT or kind == GRANT) and len(message) == 1


def message_comes(host, sender, message):
    kind = message[0]
    if kind == WORK:
        host.work_comes(sender, message[1:])
    elif kind == TOKEN:
        host.token_comes(message[1] == 1, number_at(message, 2))
    elif kind == MARKER:
        host.marker_comes(sender, message[1], number_at(message, 2))
    elif kind == RECORD:
        host.record_comes(sender, number_at(message, 1), message[TOO_MUCH_AT:])
    elif kind == WANT:
        host.want_comes(sender)
    elif kind == GRANT:
        host.grant_comes(sender)
    else:
        host.probe_comes(sender, message[1], number_at(message, 2))
