"""What a segment that comes does to an end."""

from wirestream.ends import (
    CLOSE_WAIT,
    CLOSED,
    CLOSING,
    LAST_ACK,
    LISTEN,
    OPEN,
    RESET,
    SYN_COME,
    SYN_SENT,
    TIME_WAIT,
    WAIT_ONE,
    WAIT_TWO,
    has_sent_fin,
    our_window,
    start_timer,
)
from wirestream.opening import come_to_closed, come_to_listen, come_to_syn_sent, owe_reset_for
from wirestream.piles import ROOM, lay, take
from wirestream.rounds import offset, past, plus
from wirestream.segments import (
    ACK,
    ANSWER,
    DATA,
    FIN,
    GOAL,
    NUMBER,
    RST,
    SOURCE,
    SYN,
    WINDOW,
    bears,
    get,
    is_right,
    length,
)


def arrive(end, row, now):
    if not is_right(row):
        return False
    segment = get(row)
    if not is_for(end, segment):
        return False
    if end.state == CLOSED:
        come_to_closed(end, segment)
    elif end.state == LISTEN:
        come_to_listen(end, segment)
    elif end.state == SYN_SENT:
        come_to_syn_sent(end, segment, now)
    else:
        come_to_stream(end, segment, now)
    return True


def is_for(end, segment):
    return segment[GOAL] == end.ours and (end.state in (CLOSED, LISTEN) or segment[SOURCE] == end.theirs)


def come_to_stream(end, segment, now):
    if not fits(end, segment):
        turn_away(end, segment, now)
    elif bears(segment, RST):
        hear_reset(end, segment)
    elif bears(segment, SYN):
        end.owes_answer = True
    elif bears(segment, ACK) and goes_on_behind_answer(end, segment, now):
        hear_stream(end, segment, now)


def fits(end, segment):
    size = length(segment)
    if size == 0:
        return 0 <= offset(segment[NUMBER], end.rcv) <= ROOM
    last = plus(segment[NUMBER], size - 1)
    return is_in_window(end, segment[NUMBER]) or is_in_window(end, last)


def is_in_window(end, number):
    return 0 <= offset(number, end.rcv) < our_window(end)


def turn_away(end, segment, now):
    if bears(segment, RST):
        return
    # A syn without an answer tells that our own syn was not heard.
    if end.state == SYN_COME and bears(segment, SYN) and not bears(segment, ACK):
        end.owes_syn = True
    else:
        end.owes_answer = True
    if end.state == TIME_WAIT:
        end.since = now


def hear_reset(end, segment):
    if end.state == TIME_WAIT:
        return
    if segment[NUMBER] == end.rcv:
        end.state = CLOSED
        end.error = RESET
    else:
        end.owes_answer = True


def goes_on_behind_answer(end, segment, now):
    if end.state == SYN_COME:
        return has_answered_syn(end, segment)
    if past(segment[ANSWER], end.nxt):
        end.owes_answer = True
        return False
    hear_answer(end, segment, now)
    end_what_is_acknowledged(end, now)
    return end.state != CLOSED


def has_answered_syn(end, segment):
    if end.nxt == end.first or segment[ANSWER] != end.nxt:
        owe_reset_for(end, segment)
        return False
    end.una = segment[ANSWER]
    end.state = WAIT_ONE if end.has_closed else OPEN
    take_window(end, segment)
    return True


def take_window(end, segment):
    end.wnd = segment[WINDOW]
    end.told = segment[NUMBER]
    end.told_by = segment[ANSWER]


def hear_answer(end, segment, now):
    answer = segment[ANSWER]
    has_gone_on = past(answer, end.una)
    if has_gone_on:
        # Our fin has a number too, but no byte: the pile gives no more than it has.
        take(end.written, offset(answer, end.una))
        end.una = answer
        if end.una != end.nxt:
            start_timer(end, now)
    if past(end.una, answer):
        return
    was_shut = end.wnd == 0
    if has_gone_on or is_newer(end, segment):
        take_window(end, segment)
    # Who answers with a shut window is there: sending into it again must not end in an error.
    if was_shut or end.wnd == 0:
        end.tries = 0


def is_newer(end, segment):
    if segment[NUMBER] == end.told:
        return not past(end.told_by, segment[ANSWER])
    return past(segment[NUMBER], end.told)


def end_what_is_acknowledged(end, now):
    if not has_sent_fin(end) or end.una != end.nxt:
        return
    if end.state == WAIT_ONE:
        end.state = WAIT_TWO
    elif end.state == CLOSING:
        end.state = TIME_WAIT
        end.since = now
    elif end.state == LAST_ACK:
        end.state = CLOSED


def hear_stream(end, segment, now):
    if end.state not in (OPEN, WAIT_ONE, WAIT_TWO):
        return
    keep_data(end, segment)
    keep_fin(end, segment)
    draw_in_order(end)
    if end.rcv == end.early_fin:
        hear_fin(end, now)


def keep_data(end, segment):
    for place, byte in enumerate(segment[DATA]):
        number = plus(segment[NUMBER], place)
        if is_in_window(end, number):
            end.early.setdefault(number, byte)
    if len(segment[DATA]) > 0:
        end.owes_answer = True


def keep_fin(end, segment):
    if not bears(segment, FIN):
        return
    end.owes_answer = True
    number = plus(segment[NUMBER], len(segment[DATA]))
    if end.early_fin is None and is_in_window(end, number):
        end.early_fin = number


def draw_in_order(end):
    row = []
    while end.rcv != end.early_fin and end.rcv in end.early:
        row.append(end.early.pop(end.rcv))
        end.rcv = plus(end.rcv, 1)
    lay(end.come, row)


def hear_fin(end, now):
    end.rcv = plus(end.rcv, 1)
    if end.state == OPEN:
        end.state = CLOSE_WAIT
    elif end.state == WAIT_ONE:
        end.state = CLOSING
    else:
        end.state = TIME_WAIT
        end.since = now
