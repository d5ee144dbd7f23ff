"""Promise [3.2]: what a segment does in all states but "closed", "listen" and "syn sent", point by point.

Each test looks at the state, at what is read and at the very segment that goes next."""

import unittest

from scripts import (
    HEARING,
    OPEN,
    STREAMS,
    SYN_COME,
    SYN_COME_FROM_BOTH,
    SYN_SENT,
    Stream,
    active,
    figures,
    passive,
)

FAR = (2147483647, -2147483648, -2147483647, 1000000, -1000000)
RESTS = ("open", "wait one", "wait two", "close wait", "closing", "last ack")


def streams(*texts):
    """Ways to these states with windows of 64, of a few, of one and, where it can be so, of nought."""
    found = [Stream(text, filled) for text in texts for filled in (0, 17, 61, 63)]
    return found + [Stream(text, 64) for text in texts if text in HEARING]


def script_of_fits(stream):
    """Segments without ack: where one fits it does nothing at all, else an acknowledgement goes."""
    lines = []
    for away in (-65, -64, -2, -1, 0, 1, stream.window - 1, stream.window, stream.window + 1, 63, 64, 65, 66) + FAR:
        fits = 0 <= away <= 64
        lines += lines_for(stream, f"{stream.rcv + away} 1 psh 64 0", fits)
    for size in (1, 2, 3, 4, 15, 16):
        edges = (-size - 1, -size, 1 - size, 2 - size, -1, 0, 1, 62, 63, 64, 65)
        edges += tuple(range(stream.window - size - 1, stream.window + 2)) + FAR
        for away in edges:
            fits = 0 <= away < stream.window or 0 <= away + size - 1 < stream.window
            lines += lines_for(stream, f"{stream.rcv + away} 1 none 64 0 {figures(7, size)}", fits)
            lines += lines_for(stream, f"{stream.rcv + away} 1 fin 64 0 {figures(7, size - 1)}", fits)
    return "\n".join(lines)


def lines_for(stream, segment, fits):
    return ["~ " + segment, "> -"] if fits else ["< " + segment, stream.answer(), "> -", f"= {stream.text}"]


class FitTest(unittest.TestCase):
    def test_at_the_bounds(self):
        for stream in streams(*STREAMS):
            active(self, stream.way, script_of_fits(stream))

    def test_at_the_bounds_in_syn_come(self):
        stream = Stream("open")
        stream.text = "syn come"
        active(self, SYN_COME_FROM_BOTH, script_of_fits(stream))
        passive(self, SYN_COME, script_of_fits(stream))

    def test_a_syn_counts_for_its_length(self):
        for stream in streams(*HEARING):
            # Just ahead of what is wanted, with one more byte or a fin that lies within the window.
            if stream.window > 0:
                active(self, stream.way, f"< {stream.rcv - 1} 1 syn+rst 64 0 07", stream.answer())
                active(self, stream.way, f"< {stream.rcv - 1} 1 fin+syn+rst 64 0", stream.answer())
            active(self, stream.way, f"~ {stream.rcv - 1} 1 syn+rst 64 0")
            active(self, stream.way, f"~ {stream.rcv - 2} 1 fin+syn+rst 64 0")

    def test_a_reset_that_does_not_fit(self):
        for stream in streams(*STREAMS):
            for away in (-1, -2, 65, 66) + FAR:
                for flags in ("rst", "rst+ack"):
                    active(self, stream.way, f"~ {stream.rcv + away} {stream.nxt} {flags} 64 0\n> -")
            active(self, stream.way, f"~ {stream.rcv + stream.window} {stream.nxt} rst 64 0 01\n> -")
        for away in (-1, 65):
            active(self, SYN_COME_FROM_BOTH, f"~ {1 + away} 1 rst+ack 64 0\n> -\n= syn come")

    def test_others_that_do_not_fit_are_not_heard(self):
        for stream in streams(*STREAMS):
            beyond = stream.rcv + stream.window
            for segment in (f"{beyond + 1} {stream.nxt + 1} syn+ack 7 0", f"{beyond} {stream.nxt} fin+ack 7 0",
                            f"{beyond} {stream.nxt} psh+ack 7 0 01", f"{stream.rcv - 1} {stream.nxt} ack 7 0",
                            f"{stream.rcv - 1} {stream.nxt} fin+ack 7 0", f"{stream.rcv - 1} 1 syn 7 0"):
                active(self, stream.way, f"< {segment}", stream.answer(), f"> -\n= {stream.text}")

    def test_an_answer_of_one_that_does_not_fit_is_not_heard(self):
        active(self, OPEN, "write 010203 3\n> 1 1 psh+ack 64 0 010203\n< 0 4 ack 0 0\n> 4 1 ack 64 0",
               "@ 1000\n> 1 1 ack 64 0 010203")

    def test_syns_again_in_syn_come(self):
        for way, talks in ((SYN_COME, passive), (SYN_COME_FROM_BOTH, active)):
            for flags in ("syn", "syn+psh"):
                talks(self, way, f"< 0 =0 {flags} 64 16\n> 0 1 syn+ack 64 16\n> -\n= syn come")
                talks(self, way, f"< 65 =0 {flags} 64 0\n> 0 1 syn+ack 64 16\n> -\n= syn come")
            for flags in ("syn+ack", "syn+psh+ack"):
                talks(self, way, f"< 0 1 {flags} 64 16\n> 1 1 ack 64 0\n> -\n= syn come")
            for flags in ("none", "ack", "psh+ack"):
                talks(self, way, f"< 0 1 {flags} 64 0\n> 1 1 ack 64 0\n> -\n= syn come")
        passive(self, "< 0 =0 syn 64 16\n< 0 =0 syn 64 16\n> 0 1 syn+ack 64 16\n> -")

    def test_an_acknowledgement_that_is_owed_waits_for_our_syn(self):
        passive(self, "< 0 =0 syn 64 16\n< 0 1 ack 64 0\n> 0 1 syn+ack 64 16\n> 1 1 ack 64 0\n> -")
        passive(self, SYN_COME, "< 0 =0 syn 64 16\n< 0 1 ack 64 0\n> 0 1 syn+ack 64 16\n> 1 1 ack 64 0\n> -")

    def test_elsewhere_a_syn_alone_is_acknowledged(self):
        for stream in streams(*STREAMS):
            active(self, stream.way, "< 0 =0 syn 64 16", stream.answer(), "> -")

    def test_time_wait_waits_anew(self):
        stream = Stream("time wait")
        for segment in ("1 2 fin+ack 64 0", "0 =0 syn 64 16", "1 2 ack 64 0", "67 2 none 64 0"):
            active(self, stream.way, f"@ 100000\n< {segment}", stream.answer(),
                   "@ 120000\n> -\n= time wait\n@ 219999\n> -\n= time wait\n@ 220000\n> -\n= closed")
        for segment in ("1 2 rst 0 0", "1 2 rst+ack 0 0", "67 2 rst 0 0", "2 2 rst 0 0", "2 2 ack 64 0",
                        "66 2 none 64 0", "3 2 fin+ack 64 0", "2 2 ack 64 0 07"):
            active(self, stream.way, f"@ 100000\n< {segment}\n> -\n@ 119999\n> -\n= time wait",
                   "@ 120000\n> -\n= closed")

    def test_elsewhere_the_timer_goes_on(self):
        active(self, OPEN, "write 01 1\n> 1 1 psh+ack 64 0 01\n@ 600\n< 0 1 ack 64 0\n> 2 1 ack 64 0",
               "@ 999\n> -\n@ 1000\n> 1 1 ack 64 0 01")


class ResetTest(unittest.TestCase):
    def test_at_the_number_that_is_wanted(self):
        for stream in streams(*RESTS):
            for flags in ("rst", "rst+ack", "rst+psh"):
                for answer in (0, 1, stream.nxt, 99):
                    active(self, stream.way, f"< {stream.rcv} {answer} {flags} 0 0\n= closed reset\n> -\n@ 99999\n> -")
            if stream.window > 0:
                for flags in ("fin+rst", "syn+rst", "fin+syn+rst+psh+ack"):
                    active(self, stream.way, f"< {stream.rcv} 1 {flags} 0 0 07\n= closed reset\n> -\nread 0 -")
        for way, talks in ((SYN_COME, passive), (SYN_COME_FROM_BOTH, active)):
            talks(self, way, "< 1 0 rst 0 0\n= closed reset\n> -\n@ 99999\n> -")
            talks(self, way, "< 1 1 rst+ack 0 0\n= closed reset\n> -")

    def test_elsewhere_within_the_window(self):
        for stream in streams(*RESTS):
            for away in (1, 2, 63, 64):
                for flags in ("rst", "rst+ack"):
                    active(self, stream.way, f"< {stream.rcv + away} {stream.nxt} {flags} 0 0", stream.answer(),
                           f"> -\n= {stream.text}")
            if stream.window > 0:
                active(self, stream.way, f"< {stream.rcv - 1} 1 rst 0 0 0102", stream.answer(), f"= {stream.text}")
        active(self, SYN_COME_FROM_BOTH, "< 2 1 rst+ack 0 0\n> 1 1 ack 64 0\n> -\n= syn come")

    def test_behind_data_that_came_early(self):
        active(self, OPEN, "< 3 1 ack 64 0 07\n> 1 1 ack 64 0\n< 3 1 rst 0 0\n> 1 1 ack 64 0\n= open",
               "< 1 1 rst 0 0\n= closed reset\nread 9 -")

    def test_what_came_stays_to_be_read(self):
        active(self, Stream("open", 17).way, f"< 18 1 rst 0 0\n= closed reset\nread 64 {figures(1, 17)}")

    def test_in_time_wait(self):
        stream = Stream("time wait", 5)
        for away in (0, 1, 64):
            for flags in ("rst", "rst+ack"):
                active(self, stream.way, f"~ {stream.rcv + away} 2 {flags} 0 0\n> -\n= time wait")
        active(self, stream.way, f"~ {stream.rcv} 2 syn+rst 0 0 07\n~ {stream.rcv} 2 fin+rst 0 0\n> -\n= time wait")

    def test_a_reset_that_was_owed_still_goes(self):
        active(self, SYN_COME_FROM_BOTH, "< 1 5 ack 64 0\n< 1 0 rst 0 0\n= closed reset\n> 5 =0 rst 0 0\n> -")


class SynTest(unittest.TestCase):
    def test_a_syn_that_fits_is_acknowledged_and_not_heard(self):
        for stream in streams(*STREAMS):
            if stream.window > 1:
                for flags in ("syn", "syn+ack", "fin+syn+psh+ack"):
                    for away in (0, 1, stream.window - 1):
                        active(self, stream.way, f"< {stream.rcv + away} {stream.nxt} {flags} 9 4 07",
                               stream.answer(), f"> -\n= {stream.text}\nread 64 {stream.come()}")

    def test_in_syn_come(self):
        for way, talks in ((SYN_COME, passive), (SYN_COME_FROM_BOTH, active)):
            for flags in ("syn", "syn+ack", "fin+syn+ack"):
                talks(self, way, f"< 1 1 {flags} 64 16\n> 1 1 ack 64 0\n> -\n= syn come")

    def test_its_answer_is_not_heard(self):
        active(self, OPEN, "write 010203 3\n> 1 1 psh+ack 64 0 010203\n< 1 4 syn+ack 64 0\n> 4 1 ack 64 0",
               "@ 1000\n> 1 1 ack 64 0 010203")
        active(self, OPEN, "write 01 1\n> 1 1 psh+ack 64 0 01\n< 1 9 syn+ack 64 0\n> 2 1 ack 64 0\n> -")

    def test_in_time_wait_it_waits_no_longer_for_one_that_fits(self):
        active(self, Stream("time wait").way, "@ 5000\n< 2 2 syn 64 16\n> 2 2 ack 64 0\n@ 120000\n> -\n= closed")


class NoAckTest(unittest.TestCase):
    def test_nothing_is_heard(self):
        for stream in streams(*STREAMS):
            if stream.window > 3:
                for flags in ("none", "fin", "psh", "fin+psh"):
                    active(self, stream.way, f"~ {stream.rcv} {stream.nxt} {flags} 9 0 0102\n> -\n= {stream.text}")
        active(self, SYN_COME_FROM_BOTH, "~ 1 1 none 9 0 0102\n~ 1 7 fin 9 0\n> -\n= syn come")


class AnswerInSynComeTest(unittest.TestCase):
    def test_the_right_one(self):
        for way, talks in ((SYN_COME, passive), (SYN_COME_FROM_BOTH, active)):
            talks(self, way, "< 1 1 ack 64 0\n= open\n> -\n@ 99999\n> -")
            talks(self, way, "< 65 1 ack 64 0\n= open\n> -")
            talks(self, way, "close True\n= syn come\n< 1 1 ack 64 0\n= wait one\n> 1 1 fin+ack 64 0\n> -")

    def test_wrong_ones(self):
        for way, talks in ((SYN_COME, passive), (SYN_COME_FROM_BOTH, active)):
            for answer in (0, 2, 3, -1, 66) + FAR:
                for flags in ("ack", "psh+ack", "fin+ack"):
                    talks(self, way, f"< 1 {answer} {flags} 64 0 0102\n> {answer} =0 rst 0 0\n> -\n= syn come",
                          "< 1 1 ack 64 0 07\n= open\n> 1 2 ack 63 0\nread 9 07")

    def test_ahead_of_our_syn(self):
        for answer in (0, 1, 2):
            passive(self, f"< 0 =0 syn 64 16\n< 1 {answer} ack 64 0\n> {answer} =0 rst 0 0\n= syn come",
                    "> 0 1 syn+ack 64 16\n> -\n< 1 1 ack 64 0\n= open")
            active(self, f"< 0 =0 syn 64 16\n< 1 {answer} fin+ack 64 0 07\n> {answer} =0 rst 0 0\n= syn come",
                   "> 0 1 syn+ack 64 16\n> -\n< 1 1 ack 64 0\n= open")

    def test_its_window_counts(self):
        for way, talks in ((SYN_COME, passive), (SYN_COME_FROM_BOTH, active)):
            written = f"write {figures(1, 20)} 20"
            talks(self, way, written, f"< 1 1 ack 5 0\n> 1 1 ack 64 0 {figures(1, 5)}\n> -")
            # An older number or an older answer does not tell a window then.
            talks(self, way, written, f"< 3 1 ack 5 0\n> 1 1 ack 64 0 {figures(1, 5)}\n< 2 1 ack 20 0\n> -",
                  f"< 3 1 ack 6 0\n> 6 1 ack 64 0 {figures(6, 1)}\n> -")

    def test_told_by_its_answer(self):
        for talk in passive(self, SYN_COME, "< 9 1 ack 5 0"):
            end = talk.end
            self.assertEqual((end.wnd, end.told, end.told_by), (5, (talk.theirs + 9) % 2**32, (talk.ours + 1) % 2**32))

    def test_its_data_and_fin_count(self):
        for way, talks in ((SYN_COME, passive), (SYN_COME_FROM_BOTH, active)):
            talks(self, way, "< 1 1 psh+ack 64 0 0102\n= open\n> 1 3 ack 62 0\n> -\nread 9 0102")
            talks(self, way, "< 1 1 fin+ack 64 0 0102\n= close wait\n> 1 4 ack 62 0\n> -\nread 9 0102")
            talks(self, way, "close True\n< 1 1 fin+ack 64 0\n= closing\n> 1 2 fin+ack 64 0\n> -")

    def test_what_was_written_stays(self):
        for way, talks in ((SYN_COME, passive), (SYN_COME_FROM_BOTH, active)):
            talks(self, way, f"write {figures(1, 64)} 64\n< 1 1 ack 64 0\nwrite 01 0",
                  f"> 1 1 ack 64 0 {figures(1, 16)}\n> 17 1 ack 64 0 {figures(17, 16)}",
                  f"> 33 1 ack 64 0 {figures(33, 16)}\n> 49 1 psh+ack 64 0 {figures(49, 16)}\n> -")


# Ten bytes went in two segments, at the times 0 and 100, and five more are written and wait: their window is 10.
TEN_SENT = (SYN_SENT + f"\n< 0 1 syn+ack 10 0\nwrite {figures(1, 6)} 6\n> 1 1 psh+ack 64 0 {figures(1, 6)}\n@ 100\n"
            + f"write {figures(7, 9)} 9\n> 7 1 ack 64 0 {figures(7, 4)}\n> -\n= open")


class AnswerTest(unittest.TestCase):
    def test_past_what_was_sent(self):
        for answer in (12, 13, 76, 2147483658):
            active(self, TEN_SENT, f"< 1 {answer} ack 64 0 07\n> 11 1 ack 64 0\n> -\nread 9 -",
                   f"@ 1000\n> 1 1 ack 64 0 {figures(1, 10)}")
        for stream in streams(*STREAMS):
            for away in (1, 2, 2147483647):
                beyond = stream.nxt + away
                active(self, stream.way, f"< {stream.rcv} {beyond} ack 9 0", stream.answer(), f"> -\n= {stream.text}")
                if stream.window > 3:
                    active(self, stream.way, f"< {stream.rcv} {beyond} fin+ack 9 0 07", stream.answer(),
                           f"> -\n= {stream.text}\nread 64 {stream.come()}")

    def test_half_a_round_off_it_lies_past_nothing(self):
        # Neither does una lie past it: the window that it tells is taken.
        active(self, OPEN, "write 0102 2\n< 2 -2147483647 ack 1 0\n> 1 1 ack 64 0 01\n> -")

    def test_of_all(self):
        active(self, TEN_SENT, f"< 1 11 ack 64 0\n> 11 1 psh+ack 64 0 {figures(11, 5)}\n> -\nwrite {figures(1, 64)} 59")

    def test_of_some(self):
        for answer in (2, 6, 7, 10):
            many = answer - 1
            # Their window of 10 is counted from what is acknowledged.
            new = min(5, many)
            flags = "psh+ack" if new == 5 else "ack"
            again = figures(answer, min(12, 10 + new - many))
            active(self, TEN_SENT, f"@ 500\n< 1 {answer} ack 10 0\n> 11 1 {flags} 64 0 {figures(11, new)}\n> -",
                   f"@ 1499\n> -\n@ 1500\n> {answer} 1 ack 64 0 {again}\nwrite {figures(1, 64)} {49 + many}")

    def test_of_nothing_new(self):
        for answer in (1, 0, -5, -64, -2147483637):
            active(self, TEN_SENT, f"@ 500\n< 1 {answer} ack 10 0\n> -\nwrite {figures(1, 64)} 49",
                   f"@ 999\n> -\n@ 1000\n> 1 1 ack 64 0 {figures(1, 10)}\n@ 2999\n> -\n@ 3000",
                   f"> 1 1 ack 64 0 {figures(1, 10)}")

    def test_its_data_count_all_the_same(self):
        for answer in (1, 0, -5, 2, 11):
            active(self, SYN_SENT, "< 0 1 syn+ack 0 16", f"< 1 {min(answer, 1)} psh+ack 0 0 0708",
                   "> 1 3 ack 62 0\nread 9 0708")

    def test_the_timer_starts_where_something_is_left(self):
        active(self, TEN_SENT, f"@ 1000\n> 1 1 ack 64 0 {figures(1, 10)}\n@ 3000\n> 1 1 ack 64 0 {figures(1, 10)}",
               f"@ 3100\n< 1 7 ack 4 0\n> -\n@ 4099\n> -\n@ 4100\n> 7 1 ack 64 0 {figures(7, 4)}",
               f"@ 6099\n> -\n@ 6100\n> 7 1 ack 64 0 {figures(7, 4)}")

    def test_tries_start_from_none_then(self):
        script = ["write 0102 2\n> 1 1 psh+ack 64 0 0102"]
        now = 0
        for wait in (1000, 2000, 4000, 8000, 16000, 16000):
            now += wait
            script.append(f"@ {now}\n> 1 1 ack 64 0 0102")
        script.append("< 1 2 ack 64 0")
        for wait in (1000, 2000, 4000, 8000, 16000, 16000):
            now += wait
            script.append(f"@ {now - 1}\n> -\n@ {now}\n> 2 1 ack 64 0 02")
        active(self, OPEN, "\n".join(script), f"@ {now + 15999}\n> -\n= open\n@ {now + 16000}\n> -\n= closed time")


class WindowTest(unittest.TestCase):
    """Windows that are told, seen by how many bytes go. Their syn told 4 first."""

    START = SYN_SENT + f"\n< 0 1 syn+ack 4 16\nwrite {figures(1, 60)} 60\n> 1 1 ack 64 0 {figures(1, 4)}\n> -"

    def test_of_a_newer_number(self):
        active(self, self.START, f"< 5 1 ack 7 0\n> 5 1 ack 64 0 {figures(5, 3)}\n> -\n< 6 1 ack 8 0",
               f"> 8 1 ack 64 0 {figures(8, 1)}\n> -")

    def test_of_an_older_number(self):
        active(self, self.START, f"< 5 1 ack 7 0\n> 5 1 ack 64 0 {figures(5, 3)}\n~ 4 1 ack 20 0\n> -\n~ 1 1 ack 64 0\n> -")

    def test_of_the_same_number_with_an_answer_that_is_as_new(self):
        active(self, self.START, f"< 5 1 ack 7 0\n> 5 1 ack 64 0 {figures(5, 3)}\n< 5 1 ack 9 0",
               f"> 8 1 ack 64 0 {figures(8, 2)}\n> -\n< 5 1 ack 5 0\n> -\n< 5 1 ack 11 0\n> 10 1 ack 64 0 {figures(10, 2)}")

    def test_of_an_older_answer(self):
        # Una lies past it: not even a newer number tells a window.
        active(self, self.START, "< 1 3 ack 2 0\n> -\n~ 1 2 ack 20 0\n~ 9 2 ack 20 0\n~ 9 1 ack 20 0\n> -")

    def test_una_has_just_gone_on(self):
        # An older number tells it then.
        active(self, self.START, f"< 9 1 ack 5 0\n> 5 1 ack 64 0 {figures(5, 1)}\n~ 2 1 ack 64 0\n> -\n< 2 2 ack 6 0",
               f"> 6 1 ack 64 0 {figures(6, 2)}\n> -")
        # And it has told it since: what is newer than that counts.
        active(self, self.START, "< 9 1 ack 4 0\n< 2 2 ack 3 0\n> -\n< 3 2 ack 5 0",
               f"> 5 1 ack 64 0 {figures(5, 2)}\n> -")

    def test_told_by(self):
        # Half a round ahead of una is an answer that una does not lie past; it is older than any other by its number.
        for talk in active(self, self.START, "< 5 3 ack 7 0"):
            self.assertEqual(talk.end.told_by, (talk.ours + 3) % 2**32)
            talk.end.told_by = (talk.ours + 4) % 2**32
            talk.run("~ 5 3 ack 64 0\n< 6 3 ack 8 0")
            self.assertEqual((talk.end.wnd, talk.end.told_by), (8, (talk.ours + 3) % 2**32))

    def test_it_may_become_smaller(self):
        active(self, self.START, "< 2 1 ack 2 0\n> -\n< 3 3 ack 1 0\n> -\n< 4 5 ack 1 0\n> 5 1 ack 64 0 05\n> -")
        active(self, self.START, "< 2 1 ack 0 0\n> -\n< 3 2 ack 0 0\n> -\n< 4 2 ack 4 0\n> 5 1 ack 64 0 05\n> -")

    def test_very_wide_ones(self):
        active(self, self.START, f"< 1 5 ack 65535 0\n> 5 1 ack 64 0 {figures(5, 16)}\n> 21 1 ack 64 0 {figures(21, 16)}",
               f"> 37 1 ack 64 0 {figures(37, 16)}\n> 53 1 psh+ack 64 0 {figures(53, 8)}\n> -")

    def test_in_every_state_that_sends(self):
        for text in ("open", "close wait"):
            stream = Stream(text, 0)
            active(self, stream.way, f"< {stream.rcv} 1 ack 0 0\nwrite 010203 3\n> -\n< {stream.rcv} 1 ack 2 0",
                   f"> 1 {stream.rcv} ack 64 0 0102\n> -")


class TriesTest(unittest.TestCase):
    """Where their window was or is shut, an answer makes tries 0, and no other part of the timer changes."""

    SENT_TWICE = "write 0102 2\n> 1 1 psh+ack 64 0 0102\n@ 1000\n> 1 1 ack 64 0 0102\n@ 3000\n> 1 1 ack 64 0 0102"

    def tries_and_times(self, way, script):
        return {(talk.end.tries, talk.end.since, talk.end.wait) for talk in active(self, way, script)}

    def test_shut_now(self):
        self.assertEqual(self.tries_and_times(OPEN, self.SENT_TWICE + "\n@ 3500\n< 1 1 ack 0 0"), {(0, 3000, 4000)})

    def test_shut_before(self):
        way = OPEN + "\n" + self.SENT_TWICE + "\n@ 3500\n< 1 1 ack 0 0\n@ 7000\n> 1 1 ack 64 0 0102"
        self.assertEqual(self.tries_and_times(way, "= open"), {(1, 7000, 8000)})
        self.assertEqual(self.tries_and_times(way, "@ 8000\n< 1 1 ack 9 0"), {(0, 7000, 8000)})

    def test_shut_before_and_told_by_none_that_is_newer(self):
        way = OPEN + "\n" + self.SENT_TWICE + "\n< 3 1 ack 0 0\n@ 7000\n> 1 1 ack 64 0 0102"
        self.assertEqual(self.tries_and_times(way, "@ 7500\n< 2 1 ack 9 0"), {(0, 7000, 8000)})

    def test_never_shut(self):
        for line in ("1 1 ack 9 0", "3 1 ack 1 0", "1 1 ack 64 0 0708"):
            self.assertEqual(self.tries_and_times(OPEN, self.SENT_TWICE + "\n@ 3500\n< " + line), {(2, 3000, 4000)})

    def test_not_by_an_answer_that_una_lies_past(self):
        for line in ("1 0 ack 0 0", "1 -3 ack 9 0"):
            self.assertEqual(self.tries_and_times(OPEN, self.SENT_TWICE + "\n@ 3500\n< " + line), {(2, 3000, 4000)})

    def test_so_that_a_shut_window_never_ends_it(self):
        script = ["write 0102 2\n> 1 1 psh+ack 64 0 0102"]
        now = 0
        for wait in (1000, 2000, 4000, 8000) + (16000,) * 20:
            now += wait
            script.append(f"@ {now - 1}\n> -\n@ {now}\n> 1 1 ack 64 0 0102\n< 1 1 ack 0 0")
        active(self, OPEN, "\n".join(script), "= open")


class OurEndTest(unittest.TestCase):
    def test_it_is_acknowledged(self):
        active(self, Stream("wait one").way, "< 1 2 ack 64 0\n= wait two\n> -")
        active(self, Stream("closing").way, "@ 7\n< 2 2 ack 64 0\n= time wait\n> -",
               "@ 120006\n> -\n= time wait\n@ 120007\n> -\n= closed\n> -")
        active(self, Stream("last ack").way, "< 2 2 ack 64 0\n= closed\n> -\n@ 99999\n> -")

    def test_it_is_not(self):
        for text in ("wait one", "closing", "last ack"):
            stream = Stream(text)
            active(self, stream.way, f"< {stream.rcv} 1 ack 64 0\n= {text}\n> -")

    def test_bytes_ahead_of_it_are_not_all(self):
        for text, way, number in (("wait one", OPEN, 1), ("last ack", Stream("close wait").way, 2)):
            active(self, way, f"write 0102 2\nclose True\n> 1 {number} psh+ack 64 0 0102\n> 3 {number} fin+ack 64 0",
                   f"< {number} 2 ack 64 0\n= {text}\n< {number} 3 ack 64 0\n= {text}\n> -")

    def test_it_and_bytes_at_once(self):
        active(self, OPEN, "write 0102 2\nclose True\n> 1 1 psh+ack 64 0 0102\n> 3 1 fin+ack 64 0",
               "< 1 4 ack 64 0\n= wait two\n> -\n@ 99999\n> -")

    def test_not_sent_yet(self):
        active(self, OPEN, "write 0102 2\n> 1 1 psh+ack 64 0 0102\nclose True\n< 1 3 ack 64 0\n= wait one",
               "> 3 1 fin+ack 64 0\n< 1 4 ack 64 0\n= wait two")
        active(self, Stream("close wait").way, "write 0102 2\n> 1 2 psh+ack 64 0 0102\nclose True",
               "< 2 3 ack 64 0\n= last ack\n> 3 2 fin+ack 64 0\n< 2 4 ack 64 0\n= closed")
        active(self, OPEN, "write 01 1\n> 1 1 psh+ack 64 0 01\nclose True\n< 1 1 fin+ack 64 0\n= closing",
               "< 2 2 ack 64 0\n= closing\n> 2 2 fin+ack 64 0\n< 2 3 ack 64 0\n= time wait")

    def test_data_and_fin_that_come_along(self):
        active(self, Stream("wait one").way, "< 1 2 ack 64 0 07\n= wait two\n> 2 2 ack 63 0\nread 9 07")
        active(self, Stream("wait one").way, "@ 5\n< 1 2 fin+ack 64 0 07\n= time wait\n> 2 3 ack 63 0\nread 9 07",
               "@ 120004\n> -\n= time wait\n@ 120005\n> -\n= closed")
        active(self, Stream("last ack").way, "< 2 2 fin+psh+ack 64 0 07\n= closed\n> -\nread 9 -")
        active(self, Stream("closing").way, "< 2 2 fin+psh+ack 64 0 07\n= time wait\n> -\nread 9 -")


class DataTest(unittest.TestCase):
    def test_in_order(self):
        for text in HEARING:
            stream = Stream(text)
            first, second, nxt = stream.rcv, stream.rcv + 3, stream.nxt
            active(self, stream.way, f"< {first} {nxt} psh+ack 64 0 0a0b0c\n> {nxt} {second} ack 61 0\n> -",
                   f"read 2 0a0b\n> -\n< {second} {nxt} ack 64 0 0d\n> {nxt} {second + 1} ack 62 0\nread 9 0c0d\nread 9 -",
                   "> -")

    def test_in_other_states_it_counts_for_nothing(self):
        for text in ("close wait", "closing", "last ack", "time wait"):
            for filled in (0, 5):
                stream = Stream(text, filled)
                for away in (-1, 0, 1):
                    active(self, stream.way, f"< {stream.rcv + away} {stream.una} psh+ack 64 0 0a0b\n> -",
                           f"= {text}\nread 64 {stream.come()}")

    def test_no_data_owes_nothing(self):
        for stream in streams(*STREAMS):
            active(self, stream.way, f"< {stream.rcv} {stream.una} ack 64 0\n> -\n< {stream.rcv} {stream.una} psh+ack 64 0\n> -")

    def test_early(self):
        for text in HEARING:
            stream = Stream(text)
            nxt = stream.nxt
            answer = f"> {nxt} 1 ack 64 0\n> -\nread 9 -"
            active(self, stream.way, f"< 3 {nxt} ack 64 0 0c0d", answer, f"< 6 {nxt} ack 64 0 0f", answer,
                   f"< 2 {nxt} ack 64 0 0b", answer, f"< 1 {nxt} ack 64 0 0a\n> {nxt} 5 ack 60 0",
                   f"< 5 {nxt} ack 64 0 0e\n> {nxt} 7 ack 58 0\nread 9 0a0b0c0d0e0f\n> -")

    def test_where_a_byte_is_kept_that_one_stays(self):
        active(self, OPEN, "< 2 1 ack 64 0 0b0c\n< 1 1 ack 64 0 1a1b1c1d\n> 1 5 ack 60 0\nread 9 1a0b0c1d")
        active(self, OPEN, "< 4 1 ack 64 0 0d\n< 2 1 ack 64 0 1b1c1d1e\n< 3 1 ack 64 0 2c2d2e2f\n< 1 1 ack 64 0 0a",
               "> 1 7 ack 58 0\nread 9 0a1b1c0d1e2f")

    def test_what_came_in_order_stays_as_it_came(self):
        active(self, OPEN, "< 1 1 ack 64 0 0a0b\n> 1 3 ack 62 0\n< 1 1 ack 64 0 1a1b1c\n> 1 4 ack 61 0\nread 9 0a0b1c")
        active(self, OPEN, "< 1 1 ack 64 0 0a0b\n> 1 3 ack 62 0\nread 9 0a0b\n< 1 1 ack 64 0 1a1b1c\n> 1 4 ack 63 0",
               "read 9 1c\n< 2 1 ack 64 0 2b2c\n> 1 4 ack 64 0\nread 9 -")

    def test_twice(self):
        active(self, OPEN, "< 1 1 ack 64 0 0a0b\n> 1 3 ack 62 0\n< 1 1 ack 64 0 0a0b\n> 1 3 ack 62 0\n> -\nread 9 0a0b")

    def test_no_further_than_the_window(self):
        for filled in (61, 63, 60, 50):
            stream = Stream("open", filled)
            window = stream.window
            active(self, stream.way, f"< {stream.rcv} 1 ack 64 0 {figures(100, 16)}\n> 1 65 ack 0 0\nread 64 "
                   f"{figures(1, filled)}{figures(100, window)}\n> 1 65 ack 64 0\n> -\nread 9 -")
            # What lies beyond the window is not kept, and comes again.
            active(self, stream.way, f"< {stream.rcv + 1} 1 ack 64 0 {figures(101, 15)}\nread 64 {figures(1, filled)}",
                   f"< {stream.rcv} 1 ack 64 0 63\n> 1 65 ack {64 - window} 0\nread 64 {figures(99, 1)}"
                   f"{figures(101, window - 1)}\nread 64 -")

    def test_the_windows_last_byte(self):
        active(self, OPEN, "< 64 1 ack 64 0 0a0b\n> 1 1 ack 64 0\nread 9 -",
               *[f"< {place} 1 ack 64 0 {figures(place, 9)}" for place in range(1, 64, 9)],
               f"> 1 65 ack 0 0\nread 99 {figures(1, 63)}0a")

    def test_a_shut_window(self):
        stream = Stream("open", 64)
        active(self, stream.way, "< 65 1 ack 64 0 0a\n> 1 65 ack 0 0\n> -\n= open\nread 1 01\n> 1 65 ack 1 0\n> -",
               f"< 65 1 psh+ack 64 0 0a0b\n> 1 66 ack 0 0\nread 99 {figures(2, 63)}0a")

    def test_gaps_close_over_the_round(self):
        lines = [f"< {1 + place} 1 ack 64 0 {figures(place, 2)}" for place in range(0, 40, 4)]
        lines += [f"< {3 + place} 1 ack 64 0 {figures(place + 2, 2)}" for place in range(36, -1, -4)]
        active(self, OPEN, "\n".join(lines), f"> 1 41 ack 24 0\nread 64 {figures(0, 40)}")

    def test_one_acknowledgement_is_owed_for_many(self):
        active(self, OPEN, "< 1 1 ack 64 0 0a\n< 2 1 ack 64 0 0b\n< 9 1 ack 64 0 0c\n> 1 3 ack 62 0\n> -")


class FinTest(unittest.TestCase):
    BEHIND = {"open": "close wait", "wait one": "closing", "wait two": "time wait"}

    def test_in_order(self):
        for text, behind in self.BEHIND.items():
            for filled in (0, 17, 63):
                stream = Stream(text, filled)
                active(self, stream.way, f"< {stream.rcv} {stream.una} fin+ack 64 0\n= {behind}",
                       f"> {stream.nxt} {stream.rcv + 1} ack {stream.window} 0\n> -\nread 64 {stream.come()}")

    def test_with_data(self):
        for text, behind in self.BEHIND.items():
            stream = Stream(text)
            active(self, stream.way, f"< 1 {stream.una} fin+psh+ack 64 0 0a0b\n= {behind}",
                   f"> {stream.nxt} 4 ack 62 0\n> -\nread 9 0a0b\n> -\n= {behind}")

    def test_behind_data_that_came_ahead_of_it(self):
        for text, behind in self.BEHIND.items():
            stream = Stream(text)
            active(self, stream.way, f"< 1 {stream.una} fin+psh+ack 64 0 0a0b\n= {behind}",
                   f"> {stream.nxt} 4 ack 62 0\n> -\nread 9 0a0b\n> -\n= {behind}")
            active(self, stream.way, f"< 1 {stream.una} ack 64 0 0a0b0c",
                   f"< 2 {stream.una} fin+ack 64 0 1b1c\n= {behind}\n> {stream.nxt} 5 ack 61 0\nread 9 0a0b0c")

    def test_early(self):
        for text, behind in self.BEHIND.items():
            stream = Stream(text)
            active(self, stream.way, f"< 3 {stream.una} fin+ack 64 0\n> {stream.nxt} 1 ack 64 0\n> -\n= {text}",
                   f"< 1 {stream.una} ack 64 0 0a\n> {stream.nxt} 2 ack 63 0\n= {text}",
                   f"< 2 {stream.una} ack 64 0 0b\n= {behind}\n> {stream.nxt} 4 ack 62 0\nread 9 0a0b")

    def test_time_wait_begins_when_it_is_in_order(self):
        active(self, Stream("wait two").way, "@ 10\n< 2 2 fin+ack 64 0\n= wait two\n@ 20\n< 1 2 ack 64 0 0a",
               "= time wait\n> 2 3 ack 63 0\n@ 120019\n> -\n= time wait\n@ 120020\n> -\n= closed\n> -")

    def test_the_first_that_was_kept_stays(self):
        active(self, OPEN, "< 3 1 fin+ack 64 0\n< 2 1 fin+ack 64 0\n> 1 1 ack 64 0\n< 1 1 ack 64 0 0a\n= open",
               "> 1 2 ack 63 0\n< 2 1 ack 64 0 0b\n= close wait\n> 1 4 ack 62 0\nread 9 0a0b")
        active(self, OPEN, "< 2 1 fin+ack 64 0\n< 9 1 fin+ack 64 0\n< 1 1 ack 64 0 0a\n= close wait\n> 1 3 ack 63 0")

    def test_bytes_go_no_further_than_it(self):
        active(self, OPEN, "< 3 1 fin+ack 64 0\n< 1 1 ack 64 0 0a0b0c0d\n= close wait\n> 1 4 ack 62 0\nread 9 0a0b")
        active(self, OPEN, "< 2 1 ack 64 0 0b0c0d\n< 3 1 fin+ack 64 0\n< 1 1 ack 64 0 0a\n= close wait",
               "> 1 4 ack 62 0\nread 9 0a0b")

    def test_a_fin_among_bytes_that_are_kept(self):
        active(self, OPEN, "< 2 1 ack 64 0 0b0c\n< 1 1 fin+ack 64 0\n= close wait\n> 1 2 ack 64 0\nread 9 -")

    def test_late(self):
        # The first number lies behind us, and so does the fin, though what is between fits.
        for text in ("close wait", "closing", "last ack", "time wait"):
            stream = Stream(text)
            active(self, stream.way, f"< 1 {stream.una} fin+ack 64 0", stream.answer(), f"> -\n= {text}")
        active(self, OPEN, "< 1 1 ack 64 0 0a0b\n> 1 3 ack 62 0\n< 2 1 fin+ack 64 0\n> 1 3 ack 62 0\n= open",
               "< 1 1 fin+ack 64 0 0a\n> 1 3 ack 62 0\n= open")

    def test_twice(self):
        for text, behind in self.BEHIND.items():
            stream = Stream(text)
            active(self, stream.way, f"< 1 {stream.una} fin+ack 64 0\n= {behind}\n> {stream.nxt} 2 ack 64 0",
                   f"< 1 {stream.una} fin+ack 64 0\n= {behind}\n> {stream.nxt} 2 ack 64 0\n> -")

    def test_at_the_windows_edge(self):
        for filled in (61, 63, 50):
            for text, behind in self.BEHIND.items():
                stream = Stream(text, filled)
                rcv, una, nxt, window = stream.rcv, stream.una, stream.nxt, stream.window
                inside = figures(rcv, window - 1)
                active(self, stream.way, f"< {rcv} {una} fin+ack 64 0 {inside}\n= {behind}\n> {nxt} 65 ack 1 0\n> -",
                       f"read 64 {figures(1, 63)}")
                # One further: its bytes are taken and it is not.
                active(self, stream.way, f"< {rcv} {una} fin+ack 64 0 {figures(rcv, window)}\n= {text}",
                       f"> {nxt} 65 ack 0 0\n> -\nread 64 {figures(1, 64)}\n= {text}\n> {nxt} 65 ack 64 0",
                       f"< 65 {una} fin+ack 64 0\n= {behind}\n> {nxt} 66 ack 64 0")

    def test_of_a_shut_window(self):
        for text, behind in self.BEHIND.items():
            stream = Stream(text, 64)
            active(self, stream.way, f"< 65 {stream.una} fin+ack 64 0", stream.answer(), f"> -\n= {text}\nread 1 01",
                   f"> {stream.nxt} 65 ack 1 0\n< 65 {stream.una} fin+ack 64 0\n= {behind}",
                   f"> {stream.nxt} 66 ack 1 0\nread 64 {figures(2, 63)}\n> -")

    def test_in_other_states_it_counts_for_nothing(self):
        for text in ("close wait", "closing", "last ack", "time wait"):
            stream = Stream(text)
            for away in (0, 1, 63):
                active(self, stream.way, f"< {stream.rcv + away} {stream.una} fin+ack 64 0\n> -\n= {text}")


if __name__ == "__main__":
    unittest.main()
