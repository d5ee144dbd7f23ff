"""What an end holds."""

from wirestream.piles import Pile, room
from wirestream.rounds import past, plus

CLOSED = "closed"
LISTEN = "listen"
SYN_SENT = "syn sent"
SYN_COME = "syn come"
OPEN = "open"
WAIT_ONE = "wait one"
WAIT_TWO = "wait two"
CLOSE_WAIT = "close wait"
CLOSING = "closing"
LAST_ACK = "last ack"
TIME_WAIT = "time wait"

NO_ERROR = ""
REFUSED = "refused"
RESET = "reset"
TIME = "time"

MOST_UNTOLD = 12
FIRST_WAIT = 1000


class End:
    def __init__(self, ours, theirs, first, active):
        self.ours = ours
        self.theirs = theirs
        self.state = SYN_SENT if active else LISTEN
        self.error = NO_ERROR
        self.first = first
        self.una = first
        self.nxt = first
        self.rcv = 0
        self.wnd = 0
        self.told = 0
        self.told_by = 0
        self.most = MOST_UNTOLD
        self.written = Pile()
        self.come = Pile()
        # Early bytes are known by their numbers, as they may come with gaps; so is an early fin.
        self.early = {}
        self.early_fin = None
        self.has_closed = False
        # The number behind the last byte written is kept: una and the pile of written bytes don't tell it
        # as long as our syn, or once our fin, lies between them.
        self.behind = plus(first, 1)
        self.owed_reset = None
        self.owes_syn = False
        self.owes_answer = False
        # Whether an earlier call found their window shut with something to send: only the first such call
        # starts the timer.
        self.probes = False
        self.since = 0
        self.wait = FIRST_WAIT
        self.tries = 0


def start_timer(end, now):
    end.since = now
    end.wait = FIRST_WAIT
    end.tries = 0


def state(end):
    return end.state


def error(end):
    return end.error


def our_window(end):
    return room(end.come)


def has_sent_fin(end):
    return past(end.nxt, end.behind)
