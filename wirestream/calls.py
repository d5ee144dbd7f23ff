"""What the user of an end asks of it."""

from wirestream.ends import (
    CLOSE_WAIT,
    CLOSED,
    LAST_ACK,
    LISTEN,
    OPEN,
    SYN_COME,
    SYN_SENT,
    TIME_WAIT,
    WAIT_ONE,
    WAIT_TWO,
    End,
    our_window,
)
from wirestream.piles import lay, take
from wirestream.rounds import plus
from wirestream.segments import RST


def opened(ours, theirs, first, active):
    return End(ours, theirs, first, active)


def write(end, row):
    if end.has_closed or end.state not in (SYN_SENT, SYN_COME, OPEN, CLOSE_WAIT):
        return 0
    taken = lay(end.written, row)
    end.behind = plus(end.behind, taken)
    return taken


def read(end, many):
    was_shut = our_window(end) == 0
    row = take(end.come, many)
    # The other side may be waiting for room and would not hear of it otherwise.
    if was_shut and our_window(end) > 0 and end.state in (OPEN, WAIT_ONE, WAIT_TWO):
        end.owes_answer = True
    return row


def close(end):
    if end.has_closed:
        return False
    if end.state in (LISTEN, SYN_SENT):
        end.state = CLOSED
        return True
    if end.state not in (SYN_COME, OPEN, CLOSE_WAIT):
        return False
    end.has_closed = True
    if end.state == OPEN:
        end.state = WAIT_ONE
    elif end.state == CLOSE_WAIT:
        end.state = LAST_ACK
    return True


def abort(end):
    if end.state == CLOSED:
        return False
    if end.state not in (LISTEN, SYN_SENT, TIME_WAIT):
        end.owed_reset = (end.ours, end.theirs, end.nxt, 0, RST, 0, 0, ())
    end.state = CLOSED
    return True
