"""What a segment does to an end that has no stream yet, or no longer."""

from wirestream.ends import CLOSED, OPEN, REFUSED, SYN_COME, start_timer
from wirestream.rounds import plus
from wirestream.segments import ACK, ANSWER, GOAL, MOST, NUMBER, RST, SOURCE, SYN, WINDOW, bears, length


def reset_for(segment):
    ports = (segment[GOAL], segment[SOURCE])
    if bears(segment, ACK):
        return ports + (segment[ANSWER], 0, RST, 0, 0, ())
    return ports + (0, plus(segment[NUMBER], length(segment)), RST + ACK, 0, 0, ())


def owe_reset_for(end, segment):
    # A reset that answers a reset could be answered in turn, without end.
    if not bears(segment, RST):
        end.owed_reset = reset_for(segment)


def come_to_closed(end, segment):
    owe_reset_for(end, segment)


def come_to_listen(end, segment):
    if bears(segment, RST):
        return
    if bears(segment, ACK):
        owe_reset_for(end, segment)
    elif bears(segment, SYN):
        end.theirs = segment[SOURCE]
        hear_syn(end, segment)
        end.state = SYN_COME


def hear_syn(end, segment):
    end.rcv = plus(segment[NUMBER], 1)
    end.wnd = segment[WINDOW]
    end.told = segment[NUMBER]
    end.told_by = segment[ANSWER] if bears(segment, ACK) else 0
    if segment[MOST] != 0:
        end.most = segment[MOST]


def come_to_syn_sent(end, segment, now):
    if bears(segment, ACK) and not answers_syn(end, segment):
        owe_reset_for(end, segment)
    elif bears(segment, RST):
        refuse(end, segment)
    elif bears(segment, SYN):
        hear_syn(end, segment)
        go_on_from_syn_sent(end, segment, now)


def answers_syn(end, segment):
    # As long as nothing was sent, an answer to it can only come from an older stream of these ports.
    return end.nxt != end.first and segment[ANSWER] == plus(end.first, 1)


def refuse(end, segment):
    # Without an answer nothing tells that this reset speaks of our syn.
    if bears(segment, ACK):
        end.state = CLOSED
        end.error = REFUSED


def go_on_from_syn_sent(end, segment, now):
    if bears(segment, ACK):
        end.una = segment[ANSWER]
        end.state = OPEN
        end.owes_answer = True
    else:
        end.state = SYN_COME
        start_timer(end, now)
        end.owes_syn = True
