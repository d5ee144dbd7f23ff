"""Scripts: talks of an end with the other side, line by line, as the tests of stages 3 and 4 write them.

    @ 1000                          the time is 1000 now
    < 1 1 psh+ack 64 0 0102         this segment comes, and arrive answers True
    ~ 1 1 none 64 0                 this one comes, arrive answers True, and nothing in the end changes
    > 1 3 ack 62 0                  send gives just this segment; `> -` where nothing goes
    = open                          the state, with no error; `= closed reset` with one
    write 0a0b 2                    so many of these bytes are taken
    read 5 0a0b                     these bytes are read; `read 5 -` where none are
    close True                      what close answers; abort likewise

A segment's words are its number, answer, flags, window, greatest length and data. Numbers are counted from the
first number of the side that they belong to; `=7` is the number 7 itself. The end's port is 1025, the other
one's is 80. Every script is run with first numbers of many places, those that go round among them. The end's
own first bytes are written at 1, behind its syn."""

from wirestream.arriving import arrive
from wirestream.calls import abort, close, opened, read, write
from wirestream.ends import error, state
from wirestream.notes import read as segment_of_line
from wirestream.notes import shown
from wirestream.rounds import plus
from wirestream.segments import get, put
from wirestream.sending import send

OURS = 1025
THEIRS = 80
FIRSTS = (
    (5000, 9000),
    (0, 0),
    (4294967295, 4294967295),
    (4294967280, 4294967290),
    (2147483640, 2147483647),
    (4294967294, 2147483600),
)

# Ways to states. Behind them our next number is 1 and theirs is 1.
SYN_SENT = "> 0 =0 syn 64 16\n= syn sent"
OPEN = SYN_SENT + "\n< 0 1 syn+ack 64 16\n> 1 1 ack 64 0\n= open"
SYN_COME = "< 0 =0 syn 64 16\n> 0 1 syn+ack 64 16\n= syn come"
SYN_COME_FROM_BOTH = SYN_SENT + "\n" + SYN_COME

STREAMS = ("open", "wait one", "wait two", "close wait", "closing", "last ack", "time wait")
# The states in which data and a fin are heard.
HEARING = ("open", "wait one", "wait two")


class Stream:
    """A way to a state with so many bytes that came and were not read; rcv, una, nxt and our window there."""

    def __init__(self, text, filled=0):
        self.text = text
        self.rcv = 1
        self.una = 1
        self.nxt = 1
        self.window = 64
        self.filled = filled
        self.way = OPEN
        for place in range(0, filled, 16):
            self.fill(min(16, filled - place))
        if text in ("close wait", "last ack"):
            self.hear_fin()
        if text not in ("open", "close wait"):
            self.close()
        if text in ("wait two", "time wait"):
            self.una = 2
            self.way += f"\n< {self.rcv} 2 ack 64 0"
        if text in ("closing", "time wait"):
            self.hear_fin()
        self.way += f"\n= {text}"

    def fill(self, many):
        self.way += f"\n< {self.rcv} 1 ack 64 0 {figures(self.rcv, many)}"
        self.rcv += many
        self.window -= many
        self.way += "\n" + self.answer()

    def hear_fin(self):
        self.way += f"\n< {self.rcv} {self.una} fin+ack 64 0"
        self.rcv += 1
        self.way += "\n" + self.answer()

    def close(self):
        self.way += f"\nclose True\n> 1 {self.rcv} fin+ack {self.window} 0"
        self.nxt = 2

    def come(self):
        """The bytes that came and were not read."""
        return figures(1, self.filled) or "-"

    def answer(self):
        """The pure acknowledgement that goes from here."""
        return f"> {self.nxt} {self.rcv} ack {self.window} 0"


def absolute(word, first):
    return word[1:] if word[0] == "=" else str(plus(first, int(word)))


def full_line(source, goal, number_first, answer_first, words):
    numbers = [absolute(words[0], number_first), absolute(words[1], answer_first)]
    return " ".join([str(source), str(goal)] + numbers + words[2:])


def bytes_of(word):
    return [] if word == "-" else [int(word[place:place + 2], 16) for place in range(0, len(word), 2)]


def figures(start, many):
    """So many bytes from this one on, as a segment's line writes them."""
    return "".join([f"{(start + place) % 256:02x}" for place in range(many)])


def holding(end):
    """All that an end holds, as values that stay as they are."""
    held = dict(vars(end))
    for name in ("written", "come"):
        held[name] = list(held[name].row)
    held["early"] = dict(held["early"])
    return held


class Talk:
    def __init__(self, case, active, firsts):
        self.case = case
        self.ours, self.theirs = firsts
        self.end = opened(OURS, THEIRS if active else 0, self.ours, active)
        self.now = 0

    def line_that_comes(self, words):
        return full_line(THEIRS, OURS, self.theirs, self.ours, words)

    def line_that_goes(self, words):
        return full_line(OURS, THEIRS, self.ours, self.theirs, words)

    def run(self, script):
        told = []
        for words in [line.split() for line in script.strip().splitlines()]:
            told.append(" ".join(words))
            self.step(words[0], words[1:], "\n".join([f"firsts {self.ours} {self.theirs}"] + told))
        return self

    def step(self, verb, words, told):
        same = self.case.assertEqual
        if verb == "@":
            self.now = int(words[0])
        elif verb in ("<", "~"):
            before = holding(self.end)
            came = arrive(self.end, put(segment_of_line(self.line_that_comes(words))), self.now)
            self.case.assertIs(came, True, told)
            same(holding(self.end), before if verb == "~" else holding(self.end), told)
        elif verb == ">":
            row = send(self.end, self.now)
            same("" if row == [] else shown(get(row)), "" if words == ["-"] else self.line_that_goes(words), told)
        elif verb == "=":
            text = " ".join(words)
            wanted = text.rpartition(" ") if words[-1] in ("reset", "refused", "time") else (text, "", "")
            same((state(self.end), error(self.end)), (wanted[0], wanted[2]), told)
        elif verb == "write":
            same(write(self.end, bytes_of(words[0])), int(words[1]), told)
        elif verb == "read":
            same(read(self.end, int(words[0])), bytes_of(words[1]), told)
        else:
            self.case.assertIs({"close": close, "abort": abort}[verb](self.end), words == ["True"], told)


def active(case, *scripts):
    """The talks of active ends, one for each pair of first numbers, behind these scripts."""
    return [Talk(case, True, firsts).run("\n".join(scripts)) for firsts in FIRSTS]


def passive(case, *scripts):
    return [Talk(case, False, firsts).run("\n".join(scripts)) for firsts in FIRSTS]
