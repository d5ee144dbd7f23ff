"""Hosts: many ends, told by their two ports, and ports that listen."""

from wirestream.arriving import arrive
from wirestream.calls import opened
from wirestream.ends import CLOSED, LISTEN, SYN_COME
from wirestream.errors import NoPort
from wirestream.opening import reset_for
from wirestream.rounds import plus
from wirestream.segments import ACK, GOAL, RST, SOURCE, SYN, bears, get, is_right, put
from wirestream.sending import send

STEP_OF_FIRSTS = 64000


class Host:
    def __init__(self, first):
        self.coming_first = first
        self.ends = []
        # Of two ports only the end that was made last can be other than closed.
        self.latest = {}
        # The ends that were made for each port that listens and were not taken.
        self.untaken = {}
        self.owed_reset = None
        # The place of the end that is asked first; it lies behind all ends where the last one of them sent,
        # so that an end that is made then comes next.
        self.turn = 0

    def listens(self, port):
        if port in self.untaken:
            raise NoPort("this port listens already")
        self.untaken[port] = []

    def calls(self, ours, theirs):
        if live_end(self, ours, theirs) is not None:
            raise NoPort("there is an end of these two ports already")
        return made_end(self, ours, theirs, True)

    def arrives(self, row, now):
        if not is_right(row):
            return False
        segment = get(row)
        end = end_for(self, segment)
        if end is not None:
            arrive(end, row, now)
        elif not bears(segment, RST):
            self.owed_reset = reset_for(segment)
        return True

    def sends(self, now):
        if self.owed_reset is not None:
            row = put(self.owed_reset)
            self.owed_reset = None
            return row
        many = len(self.ends)
        for step in range(many):
            place = (self.turn + step) % many
            row = send(self.ends[place], now)
            if len(row) > 0:
                self.turn = place + 1
                return row
        return []

    def taken_end(self, port):
        if port not in self.untaken:
            raise NoPort("this port does not listen")
        ready = [end for end in self.untaken[port] if end.state not in (LISTEN, SYN_COME, CLOSED)]
        if len(ready) == 0:
            return None
        self.untaken[port].remove(ready[0])
        return ready[0]


def live_end(host, ours, theirs):
    end = host.latest.get((ours, theirs))
    return None if end is None or end.state == CLOSED else end


def made_end(host, ours, theirs, active):
    end = opened(ours, theirs, host.coming_first, active)
    host.coming_first = plus(host.coming_first, STEP_OF_FIRSTS)
    host.ends.append(end)
    host.latest[(ours, theirs)] = end
    return end


def end_for(host, segment):
    end = live_end(host, segment[GOAL], segment[SOURCE])
    if end is None and segment[GOAL] in host.untaken and is_call(segment):
        end = made_end(host, segment[GOAL], segment[SOURCE], False)
        host.untaken[segment[GOAL]].append(end)
    return end


def is_call(segment):
    return bears(segment, SYN) and not bears(segment, ACK) and not bears(segment, RST)
