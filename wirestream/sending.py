"""The segment that an end sends next."""

from wirestream.ends import (
    CLOSE_WAIT,
    CLOSED,
    CLOSING,
    LAST_ACK,
    LISTEN,
    OPEN,
    SYN_COME,
    SYN_SENT,
    TIME,
    TIME_WAIT,
    WAIT_ONE,
    our_window,
    start_timer,
)
from wirestream.piles import ROOM
from wirestream.rounds import offset, plus
from wirestream.segments import ACK, FIN, GREATEST_DATA, PSH, SYN, put

MOST_TRIES = 6
LONGEST_WAIT = 16000
LAST_WAIT = 120000


def send(end, now):
    segment = going(end, now)
    return [] if segment is None else put(segment)


def going(end, now):
    if end.owed_reset is not None:
        return paid_reset(end)
    if end.state == TIME_WAIT and now - end.since >= LAST_WAIT:
        end.state = CLOSED
    if end.state in (CLOSED, LISTEN):
        return None
    if end.nxt != end.una and is_due(end, now):
        return again(end, now)
    segment = going_as_new(end, now)
    if segment is None:
        segment = going_as_probe(end, now)
    if segment is None:
        segment = going_as_answer(end)
    return segment


def paid_reset(end):
    segment = end.owed_reset
    end.owed_reset = None
    return segment


def is_due(end, now):
    return now - end.since >= end.wait


def again(end, now):
    if end.tries == MOST_TRIES:
        end.state = CLOSED
        end.error = TIME
        return None
    end.tries = end.tries + 1
    end.wait = min(2 * end.wait, LONGEST_WAIT)
    end.since = now
    if end.state in (SYN_SENT, SYN_COME):
        return paid_syn(end)
    # Our fin may be among what was sent, but the pile holds bytes alone.
    data = end.written.row[:min(offset(end.nxt, end.una), most_at_once(end))]
    return segment_of(end, end.una, 0 if len(data) > 0 else FIN, data)


def most_at_once(end):
    return min(end.most, GREATEST_DATA)


def paid_syn(end):
    end.owes_syn = False
    if end.state == SYN_SENT:
        return (end.ours, end.theirs, end.first, 0, SYN, ROOM, GREATEST_DATA, ())
    return (end.ours, end.theirs, end.first, end.rcv, SYN + ACK, ROOM, GREATEST_DATA, ())


def segment_of(end, number, flags, data):
    return (end.ours, end.theirs, number, end.rcv, flags + ACK, our_window(end), 0, tuple(data))


def going_as_new(end, now):
    if end.state in (SYN_SENT, SYN_COME):
        return new_syn(end, now) if end.nxt == end.first or end.owes_syn else None
    room = end.wnd - offset(end.nxt, end.una)
    if room <= 0 or not has_more(end):
        return None
    if end.nxt == end.una:
        start_timer(end, now)
    end.owes_answer = False
    return new_piece(end, room)


def new_syn(end, now):
    if end.nxt == end.una:
        start_timer(end, now)
    end.nxt = plus(end.first, 1)
    return paid_syn(end)


def has_more(end):
    return has_new_data(end) or has_new_fin(end)


def has_new_data(end):
    return end.state in (OPEN, WAIT_ONE, CLOSE_WAIT, CLOSING, LAST_ACK) and unsent(end) > 0


def unsent(end):
    return offset(end.behind, end.nxt)


def has_new_fin(end):
    return end.state in (WAIT_ONE, CLOSING, LAST_ACK) and unsent(end) == 0


def new_piece(end, room):
    end.probes = False
    return new_data(end, room) if has_new_data(end) else new_fin(end)


def new_data(end, room):
    number = end.nxt
    many = min(most_at_once(end), unsent(end), room)
    place = offset(number, end.una)
    end.nxt = plus(number, many)
    return segment_of(end, number, PSH if unsent(end) == 0 else 0, end.written.row[place:place + many])


def new_fin(end):
    number = end.nxt
    end.nxt = plus(number, 1)
    return segment_of(end, number, FIN, [])


def going_as_probe(end, now):
    if end.nxt != end.una or end.wnd != 0 or not has_more(end):
        end.probes = False
        return None
    if not end.probes:
        end.probes = True
        start_timer(end, now)
    if not is_due(end, now):
        return None
    end.since = now
    return new_piece(end, 1)


def going_as_answer(end):
    # Ahead of our syn none can go: as long as it was not sent, it goes first and this is not reached.
    if not end.owes_answer:
        return None
    end.owes_answer = False
    return segment_of(end, end.nxt, 0, [])
