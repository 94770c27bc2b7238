"""What a host keeps, and the moves that its calls are made of."""

from idlehosts.messages import (MOST_WORKS, grant_message, marker_message, probe_message, record_bytes, record_message,
                                token_message, want_message, work_message)

MOST_OUTGOING = 512
GOES_ROUND_AT = 4294967296


class Token:
    def __init__(self, black, total):
        self.black = black
        self.total = total


class Recording:
    # ways tells of each host, by number, whether its way still counts for this recording.
    def __init__(self, number, state, ways):
        self.number = number
        self.state = state
        self.ways = ways
        self.works = []
        self.too_much = False

    def put_work(self, sender, row):
        if len(self.works) < MOST_WORKS:
            self.works.append((sender, row))
        else:
            self.too_much = True


class Host:
    def __init__(self):
        # Ahead of the first dt_begin there are no hosts, so no number is another host's.
        self.begin(0, 0, False)

    def begin(self, me, n, active):
        self.me = me
        self.n = n
        self.active = active
        self.state = []
        # Pairs: for whom a message is (from whom a work is), and its bytes.
        self.outgoing = []
        self.works = []
        # The document's sum, kept from 0 to 2^32 - 1.
        self.balance = 0
        self.black = False
        self.watching = False
        self.token = None
        self.found = False
        self.cut_number = 0
        # The records of the last own cut, by host; the recordings, by who wanted the cut.
        self.records = {}
        self.recordings = {}
        # Of each host, by number: whether this one waits for it, and whether this one owes it.
        self.waits = [False for host in range(n)]
        self.owes = [False for host in range(n)]
        self.suspect_number = 0
        # The number of the last probe that counted, by who; only a greater one counts, so it's the greatest too.
        self.counted = {}
        self.locked = False

    def is_busy(self):
        return len(self.outgoing) > MOST_OUTGOING

    def is_other(self, who):
        return 0 <= who and who < self.n and who != self.me

    def send(self, to, message):
        self.outgoing.append((to, message))

    def send_to_all(self, message):
        for to in range(self.n):
            if to != self.me:
                self.send(to, message)

    def send_work(self, to, row):
        self.send(to, work_message(row))
        self.balance = (self.balance + 1) % GOES_ROUND_AT

    def work_comes(self, sender, row):
        self.active = True
        self.black = True
        self.balance = (self.balance - 1) % GOES_ROUND_AT
        self.works.append((sender, row))
        for recording in self.recordings.values():
            if recording.ways[sender]:
                recording.put_work(sender, row)

    def become_idle(self):
        self.active = False
        self.pass_token()

    def watch(self):
        self.watching = True
        self.token = Token(True, 0)
        self.pass_token()

    def token_comes(self, black, total):
        if self.token is None:
            self.token = Token(black, total)
            self.pass_token()

    def pass_token(self):
        if self.active or self.token is None:
            return
        token = self.token
        self.token = None
        black = token.black or self.black
        total = (token.total + self.balance) % GOES_ROUND_AT
        if self.me > 0:
            self.send(self.me - 1, token_message(black, total))
        elif black or total != 0:
            self.send(self.n - 1, token_message(False, 0))
        else:
            self.found = True
        # Where it's found the host is white already, so this holds for all three.
        self.black = False

    def last_cut_is_whole(self):
        return len(self.records) == self.n

    def begin_cut(self):
        self.cut_number = self.cut_number + 1
        self.records = {}
        self.begin_recording(self.me, self.cut_number, self.me)

    def begin_recording(self, who, number, closed):
        # closed is the host whose marker began this; for an own cut the host itself, which has no way anyhow.
        ways = [host != self.me and host != closed for host in range(self.n)]
        self.recordings[who] = Recording(number, list(self.state), ways)
        self.send_to_all(marker_message(who, number))

    def marker_comes(self, sender, who, number):
        if who in self.recordings:
            recording = self.recordings[who]
            if recording.number == number:
                recording.ways[sender] = False
                self.end_recording_if_done(who)
        elif who != self.me:
            self.begin_recording(who, number, sender)
            # With two hosts the marker's way was the only one.
            self.end_recording_if_done(who)

    def end_recording_if_done(self, who):
        recording = self.recordings[who]
        if any(recording.ways):
            return
        self.recordings.pop(who)
        record = record_bytes(recording.too_much, recording.state, recording.works)
        if who == self.me:
            self.records[who] = record
        else:
            self.send(who, record_message(recording.number, record))

    def record_comes(self, sender, number, record):
        # Ahead of the first own cut a record of number 0 would else be taken for one of it.
        if self.cut_number > 0 and number == self.cut_number and sender not in self.records:
            self.records[sender] = record

    def cut_bytes(self):
        row = []
        for host in range(self.n):
            row.extend(self.records[host])
        return row

    def is_blocked(self):
        return any(self.waits)

    def want(self, who):
        self.waits[who] = True
        self.send(who, want_message())

    def want_comes(self, sender):
        self.owes[sender] = True

    def grant(self, who):
        self.owes[who] = False
        self.send(who, grant_message())

    def grant_comes(self, sender):
        self.waits[sender] = False

    def suspect(self):
        self.suspect_number = self.suspect_number + 1
        self.send_probe(self.me, self.suspect_number)

    def send_probe(self, who, number):
        for to in range(self.n):
            if self.waits[to]:
                self.send(to, probe_message(who, number))

    def probe_comes(self, sender, who, number):
        if not self.is_blocked() or not self.owes[sender]:
            return
        if who in self.counted and self.counted[who] >= number:
            return
        self.counted[who] = number
        if who == self.me:
            self.locked = True
        else:
            self.send_probe(who, number)
