"""What a host keeps, and the moves that its calls are made of."""

from idlehosts.messages import marker_message, token_message, want_message, work_message

MOST_OUTGOING = 512
GOES_ROUND_AT = 4294967296


class Token:
    def __init__(self, black, total):
        self.black = black
        self.total = total


class Recording:
    # ways tells of each host, by number, whether its way still counts for this recording.
    def __init__(self, number, state, ways):
        self.number = number
        self.state = state
        self.ways = ways
        self.works = []
        self.too_much = False


class Host:
    def __init__(self):
        # Ahead of the first dt_begin there are no hosts, so no number is another host's.
        self.begin(0, 0, False)

    def begin(self, me, n, active):
        self.me = me
        self.n = n
        self.active = active
        self.state = []
        # Pairs: for whom a message is (from whom a work is), and its bytes.
        self.outgoing = []
        self.works = []
        # The document's sum, kept from 0 to 2^32 - 1.
        self.balance = 0
        self.black = False
        self.watching = False
        self.token = None
        self.found = False
        self.cut_number = 0
        # The records of the last own cut, by host; the recordings, by who wanted the cut.
        self.records = {}
        self.recordings = {}
        self.waits = [False for host in range(n)]

    def is_busy(self):
        return len(self.outgoing) > MOST_OUTGOING

    def is_other(self, who):
        return 0 <= who and who < self.n and who != self.me

    def send(self, to, message):
        self.outgoing.append((to, message))

    def send_to_all(self, message):
        for to in range(self.n):
            if to != self.me:
                self.send(to, message)

    def send_work(self, to, row):
        self.send(to, work_message(row))
        self.balance = (self.balance + 1) % GOES_ROUND_AT

    def become_idle(self):
        self.active = False
        self.pass_token()

    def watch(self):
        self.watching = True
        self.token = Token(True, 0)
        self.pass_token()

    def pass_token(self):
        if self.active or self.token is None:
            return
        token = self.token
        self.token = None
        black = token.black or self.black
        total = (token.total + self.balance) % GOES_ROUND_AT
        if self.me > 0:
            self.send(self.me - 1, token_message(black, total))
        elif black or total != 0:
            self.send(self.n - 1, token_message(False, 0))
        else:
            self.found = True
        # Where it's found the host is white already, so this holds for all three.
        self.black = False

    def last_cut_is_whole(self):
        return len(self.records) == self.n

    def begin_cut(self):
        self.cut_number = self.cut_number + 1
        self.records = {}
        self.begin_recording(self.me, self.cut_number, self.me)

    def begin_recording(self, who, number, closed):
        # closed is the host whose marker began this; for an own cut the host itself, which has no way anyhow.
        ways = [host != self.me and host != closed for host in range(self.n)]
        self.recordings[who] = Recording(number, list(self.state), ways)
        self.send_to_all(marker_message(who, number))

    def want(self, who):
        self.waits[who] = True
        self.send(who, want_message())
