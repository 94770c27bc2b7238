"""The calls on a host: each one's refusals in the order told, then what it does and answers."""

WRONG = -2
NOT_NOW = -3
TOO_MANY = -4

MOST_HOSTS = 16
MOST_BYTES = 64
LAST_NUMBER = 4294967295
TOLD_BELOW = 2147483648


def dt_begin(host, me, n, active):
    if n < 2 or n > MOST_HOSTS or me < 0 or me >= n:
        return [WRONG]
    host.begin(me, n, active != 0)
    return [0]


def dt_state(host, row):
    if len(row) > MOST_BYTES:
        return [WRONG]
    host.state = row
    return [0]


def dt_send(host, to, row):
    if not host.is_other(to) or len(row) > MOST_BYTES:
        return [WRONG]
    if not host.active:
        return [NOT_NOW]
    if host.is_busy():
        return [TOO_MANY]
    host.send_work(to, row)
    return [0]


def dt_idle(host):
    if not host.active or len(host.works) > 0:
        return [NOT_NOW]
    if host.is_busy():
        return [TOO_MANY]
    host.become_idle()
    return [0]


def dt_watch(host):
    if host.me != 0 or host.watching:
        return [NOT_NOW]
    if host.is_busy():
        return [TOO_MANY]
    host.watch()
    return [0]


def dt_snapshot(host):
    if host.cut_number > 0 and not host.last_cut_is_whole():
        return [NOT_NOW]
    if host.is_busy() or host.cut_number == LAST_NUMBER:
        return [TOO_MANY]
    host.begin_cut()
    return [host.cut_number % TOLD_BELOW]


def dt_want(host, who):
    if not host.is_other(who):
        return [WRONG]
    if host.waits[who]:
        return [NOT_NOW]
    if host.is_busy():
        return [TOO_MANY]
    host.want(who)
    return [0]
