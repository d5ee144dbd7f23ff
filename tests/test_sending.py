"""Promises [4.1] and [4.2]: the segment that goes, by the first of nine points that holds, and what it pays."""

import unittest

from scripts import (
    HEARING,
    OPEN,
    STREAMS,
    SYN_COME,
    SYN_COME_FROM_BOTH,
    SYN_SENT,
    Stream,
    active,
    figures,
    holding,
    passive,
)
from wirestream.arriving import arrive
from wirestream.calls import close, opened, write
from wirestream.segments import put
from wirestream.sending import send

WAITS = (1000, 2000, 4000, 8000, 16000, 16000)


def script_of_tries(start, segment):
    """What goes again and again from the start of the timer on, up to the end with an error."""
    lines = []
    now = start
    for wait in WAITS:
        now += wait
        lines += [f"@ {now - 1}", "> -", f"@ {now}", f"> {segment}", "> -"]
    return "\n".join(lines + [f"@ {now + 15999}", "> -", f"@ {now + 16000}", "> -", "= closed time", "> -"])


class ResetTest(unittest.TestCase):
    def test_it_goes_ahead_of_all_else(self):
        # Of what is sent again, of a syn, of new data and of an acknowledgement.
        active(self, SYN_SENT, "< 0 7 ack 64 0\n@ 1000\n> 7 =0 rst 0 0\n> 0 =0 syn 64 16\n> -")
        passive(self, "< 0 =0 syn 64 16\n< 1 7 ack 64 0\n> 7 =0 rst 0 0\n> 0 1 syn+ack 64 16\n> -")
        passive(self, SYN_COME, "< 1 7 ack 64 0\n< 0 1 ack 64 0\n> 7 =0 rst 0 0\n> 1 1 ack 64 0\n> -")
        active(self, OPEN, "write 0102 2\n< 1 1 ack 64 0 07\nabort True\n> 1 =0 rst 0 0\n> -")

    def test_it_goes_once_in_closed_and_listen(self):
        active(self, "close True\n< 1 7 ack 64 0\n> 7 =0 rst 0 0\n> -\n@ 9999\n> -\n= closed")
        for talk in passive(self, "< 1 7 ack 64 0"):
            self.assertEqual(len(send(talk.end, 0)), 20)
            self.assertEqual(send(talk.end, 0), [])

    def test_it_changes_nothing_else(self):
        for talk in passive(self, SYN_COME, "< 0 1 ack 64 0\n< 1 7 ack 64 0\n@ 1500"):
            before = holding(talk.end)
            talk.run("> 7 =0 rst 0 0")
            before["owed_reset"] = None
            self.assertEqual(holding(talk.end), before)

    def test_of_abort(self):
        for text in STREAMS[:-1]:
            stream = Stream(text, 5)
            active(self, stream.way, f"abort True\n> {stream.nxt} =0 rst 0 0\n> -\n= closed\n@ 9999\n> -")
        active(self, Stream("time wait").way, "abort True\n> -\n= closed")
        active(self, SYN_SENT, "abort True\n> -\n@ 1000\n> -\n= closed")

    def test_ahead_of_the_end_of_time_wait(self):
        for talk in active(self, Stream("time wait").way, "@ 120000"):
            talk.end.owed_reset = (1025, 80, talk.ours, 0, 4, 0, 0, ())
            talk.run("> 0 =0 rst 0 0\n= time wait\n> -\n= closed")


class NothingTest(unittest.TestCase):
    def test_closed_and_listen(self):
        active(self, "close True\n> -\n@ 999999\n> -\n= closed")
        passive(self, "> -\n@ 999999\n> -\n= listen")
        active(self, "write 0102 2\nclose True\n> -")
        # What was sent and is not acknowledged does not go again once all is closed.
        active(self, OPEN, "write 0102 2\n> 1 1 psh+ack 64 0 0102\n< 1 1 rst 64 0\n= closed reset\n@ 1000\n> -")
        active(self, OPEN, "< 1 1 ack 64 0 07\n< 2 1 rst 64 0\n= closed reset\n> -")

    def test_an_open_end_with_nothing_to_do(self):
        for text in STREAMS[:-1]:
            stream = Stream(text)
            for talk in active(self, stream.way):
                before = holding(talk.end)
                talk.run("@ 999\n> -\n> -")
                self.assertEqual(holding(talk.end), before)
        for text in ("open", "wait two", "close wait"):
            active(self, Stream(text).way, f"@ 10000000\n> -\n= {text}")

    def test_time_wait(self):
        active(self, Stream("time wait").way, "@ 119999\n> -\n= time wait\n@ 120000\n> -\n= closed\n> -")
        active(self, Stream("time wait").way, "@ 120001\n> -\n= closed\n> -")
        # An acknowledgement that is owed goes ahead of the end, and not with it.
        active(self, Stream("time wait").way, "< 1 2 fin+ack 64 0\n@ 119999\n> 2 2 ack 64 0\n@ 120000\n> -\n= closed")
        active(self, Stream("time wait").way, "< 1 2 fin+ack 64 0\n@ 120000\n> -\n= closed\n> -")

    def test_no_other_state_ends_by_that_wait(self):
        for text in ("open", "wait two", "close wait"):
            active(self, Stream(text).way, f"@ 120000\n> -\n= {text}")


class AgainTest(unittest.TestCase):
    def test_the_syn(self):
        active(self, SYN_SENT, "> -", script_of_tries(0, "0 =0 syn 64 16"))
        active(self, "@ 77", SYN_SENT, "> -", script_of_tries(77, "0 =0 syn 64 16"))
        passive(self, "@ 5", SYN_COME, "> -", script_of_tries(5, "0 1 syn+ack 64 16"))
        active(self, SYN_COME_FROM_BOTH, "> -", script_of_tries(0, "0 1 syn+ack 64 16"))

    def test_the_syn_alone_with_bytes_and_a_close_behind_it(self):
        passive(self, SYN_COME, "write 0102 2\nclose True\n> -", script_of_tries(0, "0 1 syn+ack 64 16"))

    def test_bytes(self):
        active(self, OPEN, "@ 30\nwrite 0a0b0c 3\n> 1 1 psh+ack 64 0 0a0b0c\n> -",
               script_of_tries(30, "1 1 ack 64 0 0a0b0c"))

    def test_the_fin(self):
        active(self, Stream("wait one").way, "> -", script_of_tries(0, "1 1 fin+ack 64 0"))
        active(self, Stream("closing").way, "> -", script_of_tries(0, "1 2 fin+ack 64 0"))
        active(self, Stream("last ack").way, "> -", script_of_tries(0, "1 2 fin+ack 64 0"))

    def test_bytes_ahead_of_the_fin_and_then_it_alone(self):
        sent = "write 0a0b 2\nclose True\n> 1 1 psh+ack 64 0 0a0b\n> 3 1 fin+ack 64 0\n> -"
        active(self, OPEN, sent, script_of_tries(0, "1 1 ack 64 0 0a0b"))
        active(self, OPEN, sent, "@ 500\n< 1 3 ack 64 0\n= wait one\n> -", script_of_tries(500, "3 1 fin+ack 64 0"))
        active(self, OPEN, sent, "@ 500\n< 1 2 ack 64 0\n> -", script_of_tries(500, "2 1 ack 64 0 0b"))

    def test_at_most_so_many_at_once(self):
        for most, many in ((0, 12), (4, 4), (5, 5), (15, 15), (16, 16), (17, 16), (65535, 16)):
            script = [SYN_SENT, f"< 0 1 syn+ack 64 {most}\nwrite {figures(1, 40)} 40"]
            for place in range(1, 41, many):
                size = min(many, 41 - place)
                flags = "psh+ack" if place + size == 41 else "ack"
                script.append(f"> {place} 1 {flags} 64 0 {figures(place, size)}")
            active(self, *script, "> -", script_of_tries(0, f"1 1 ack 64 0 {figures(1, many)}"))

    def test_bytes_that_were_not_sent_do_not_go_along(self):
        active(self, SYN_SENT, "< 0 1 syn+ack 3 16\nwrite 0102030405 5\n> 1 1 ack 64 0 010203\n> -",
               script_of_tries(0, "1 1 ack 64 0 010203"))
        active(self, OPEN, "write 01 1\n> 1 1 psh+ack 64 0 01\nwrite 02 1\n@ 1000\n> 1 1 ack 64 0 01",
               "> 2 1 psh+ack 64 0 02\n> -\n@ 3000\n> 1 1 ack 64 0 0102")

    def test_though_their_window_is_shut(self):
        active(self, OPEN, "write 0102 2\n> 1 1 psh+ack 64 0 0102\n< 1 1 ack 0 0\n> -",
               script_of_tries(0, "1 1 ack 64 0 0102"))

    def test_ahead_of_new_data_a_fin_and_an_acknowledgement(self):
        active(self, OPEN, "write 01 1\n> 1 1 psh+ack 64 0 01\nwrite 02 1\nclose True\n< 1 1 ack 64 0 07\n@ 1000",
               "> 1 2 ack 63 0 01\n> 2 2 psh+ack 63 0 02\n> 3 2 fin+ack 63 0\n> -")

    def test_it_pays_no_acknowledgement(self):
        active(self, OPEN, "write 01 1\n> 1 1 psh+ack 64 0 01\n< 1 1 ack 64 0 07\n@ 1000\n> 1 2 ack 63 0 01",
               "> 2 2 ack 63 0\n> -")
        active(self, Stream("wait one").way, "< 1 1 ack 64 0 07\n@ 1000\n> 1 2 fin+ack 63 0\n> 2 2 ack 63 0\n> -")
        passive(self, SYN_COME, "< 0 1 ack 64 0\n@ 1000\n> 0 1 syn+ack 64 16\n> 1 1 ack 64 0\n> -")

    def test_a_syn_pays_the_syn_that_is_owed(self):
        passive(self, SYN_COME, "< 0 =0 syn 64 16\n@ 1000\n> 0 1 syn+ack 64 16\n> -")

    def test_the_time_may_go_on_further_than_the_wait(self):
        active(self, SYN_SENT, "@ 5000\n> 0 =0 syn 64 16\n> -\n@ 6999\n> -\n@ 7000\n> 0 =0 syn 64 16\n> -\n@ 90000",
               "> 0 =0 syn 64 16\n> -\n@ 97999\n> -\n@ 98000\n> 0 =0 syn 64 16")

    def test_once_all_is_acknowledged_nothing_goes_again(self):
        active(self, OPEN, "write 01 1\n> 1 1 psh+ack 64 0 01\n@ 999\n< 1 2 ack 64 0\n@ 1000\n> -\n@ 99999\n> -\n= open")

    def test_the_window_and_answer_are_those_of_now(self):
        active(self, OPEN, "write 01 1\n> 1 1 psh+ack 64 0 01\n< 1 1 ack 64 0 0708\n> 2 3 ack 62 0\nread 1 07\n@ 1000",
               "> 1 3 ack 63 0 01")

    def test_what_is_unsent_stays_unsent(self):
        for talk in active(self, SYN_SENT, "@ 1000"):
            before = holding(talk.end)
            talk.run("> 0 =0 syn 64 16")
            before.update(tries=1, wait=2000, since=1000)
            self.assertEqual(holding(talk.end), before)

    def test_the_end_by_time(self):
        for talk in active(self, OPEN, "write 01 1\n> 1 1 psh+ack 64 0 01"):
            talk.end.tries = 6
            talk.run("< 1 1 ack 64 0 07\n@ 1000\n> -\n= closed time\n> -\nread 9 07\nwrite 01 0\nclose False\nabort False")


class SynTest(unittest.TestCase):
    def test_in_syn_sent(self):
        active(self, "> 0 =0 syn 64 16\n> -\n@ 999\n> -\n= syn sent")
        active(self, "write 0102 2\n> 0 =0 syn 64 16\n> -")

    def test_in_syn_come(self):
        passive(self, "< 0 =0 syn 64 16\n> 0 1 syn+ack 64 16\n> -\n@ 999\n> -\n= syn come")
        active(self, "< 0 =0 syn 64 16\n> 0 1 syn+ack 64 16\n> -\n= syn come")

    def test_it_goes_again_where_it_is_owed(self):
        passive(self, SYN_COME, "< 0 =0 syn 64 16\n> 0 1 syn+ack 64 16\n> -\n< 0 =0 syn 64 16\n> 0 1 syn+ack 64 16\n> -")

    def test_one_that_is_owed_does_not_start_the_timer(self):
        passive(self, SYN_COME, "@ 600\n< 0 =0 syn 64 16\n> 0 1 syn+ack 64 16\n@ 999\n> -\n@ 1000\n> 0 1 syn+ack 64 16")

    def test_it_starts_the_timer_where_una_is_nxt(self):
        passive(self, "@ 50\n< 0 =0 syn 64 16\n@ 70", "> 0 1 syn+ack 64 16\n@ 1069\n> -\n@ 1070\n> 0 1 syn+ack 64 16")
        active(self, "@ 50\n< 0 =0 syn 64 16\n@ 70", "> 0 1 syn+ack 64 16\n@ 1069\n> -\n@ 1070\n> 0 1 syn+ack 64 16")

    def test_it_pays_no_acknowledgement(self):
        passive(self, "< 0 =0 syn 64 16\n< 0 1 ack 64 0\n> 0 1 syn+ack 64 16\n> 1 1 ack 64 0\n> -")

    def test_owed_in_syn_come_it_is_not_owed_in_open(self):
        passive(self, SYN_COME, "< 0 =0 syn 64 16\n< 1 1 ack 64 0\n= open\n> -\n@ 9999\n> -")

    def test_bytes_and_a_fin_wait_for_the_answer(self):
        passive(self, SYN_COME, "write 0102 2\nclose True\n> -\n= syn come\n< 1 1 ack 64 0\n= wait one",
                "> 1 1 psh+ack 64 0 0102\n> 3 1 fin+ack 64 0\n> -")


class NewDataTest(unittest.TestCase):
    def test_byte_for_byte(self):
        end = opened(1025, 80, 5000, True)
        self.assertEqual(send(end, 0), [4, 1, 0, 80, 0, 0, 19, 136, 0, 0, 0, 0, 96, 2, 0, 64, 133, 208, 0, 0, 2, 4, 0, 16])
        self.assertIs(arrive(end, put((80, 1025, 9000, 5001, 18, 64, 16, ())), 0), True)
        self.assertEqual(send(end, 0), [4, 1, 0, 80, 0, 0, 19, 137, 0, 0, 35, 41, 80, 16, 0, 64, 116, 172, 0, 0])
        write(end, [255, 0, 7])
        self.assertEqual(send(end, 0), [4, 1, 0, 80, 0, 0, 19, 137, 0, 0, 35, 41, 80, 24, 0, 64, 110, 163, 0, 0, 255, 0, 7])
        close(end)
        self.assertEqual(send(end, 0), [4, 1, 0, 80, 0, 0, 19, 140, 0, 0, 35, 41, 80, 17, 0, 64, 116, 168, 0, 0])
        self.assertEqual(send(end, 0), [])

    def test_in_the_states_that_send_it(self):
        active(self, OPEN, "write 0a0b 2\n> 1 1 psh+ack 64 0 0a0b\n> -")
        active(self, OPEN, "write 0a0b 2\nclose True\n= wait one\n> 1 1 psh+ack 64 0 0a0b\n> 3 1 fin+ack 64 0\n> -")
        active(self, Stream("close wait").way, "write 0a0b 2\n> 1 2 psh+ack 64 0 0a0b\n> -")
        active(self, Stream("close wait").way, "write 0a0b 2\nclose True\n= last ack",
               "> 1 2 psh+ack 64 0 0a0b\n> 3 2 fin+ack 64 0\n> -")
        active(self, OPEN, "write 0a0b 2\nclose True\n< 1 1 fin+ack 64 0\n= closing",
               "> 1 2 psh+ack 64 0 0a0b\n> 3 2 fin+ack 64 0\n> -")

    def test_psh_on_the_last_written_alone(self):
        active(self, OPEN, f"write {figures(1, 33)} 33\n> 1 1 ack 64 0 {figures(1, 16)}\n> 17 1 ack 64 0 {figures(17, 16)}",
               f"> 33 1 psh+ack 64 0 {figures(33, 1)}\n> -")
        active(self, OPEN, f"write {figures(1, 16)} 16\n> 1 1 psh+ack 64 0 {figures(1, 16)}\n> -\nwrite 0a 1",
               "> 17 1 psh+ack 64 0 0a\n> -")
        active(self, OPEN, f"write {figures(1, 20)} 20\n> 1 1 ack 64 0 {figures(1, 16)}\nwrite {figures(21, 20)} 20",
               f"> 17 1 ack 64 0 {figures(17, 16)}\n> 33 1 psh+ack 64 0 {figures(33, 8)}\n> -")
        active(self, SYN_SENT, "< 0 1 syn+ack 2 16\nwrite 010203 3\n> 1 1 ack 64 0 0102\n> -\n< 1 3 ack 1 0",
               "> 3 1 psh+ack 64 0 03\n> -")

    def test_so_many_as_their_window_takes(self):
        for window in (1, 2, 15, 16, 17, 31, 40, 63, 64, 65, 65535):
            script = [SYN_SENT, f"< 0 1 syn+ack {window} 16\nwrite {figures(1, 64)} 64"]
            place = 1
            while place <= min(window, 64):
                size = min(16, min(window, 64) + 1 - place)
                flags = "psh+ack" if place + size == 65 else "ack"
                script.append(f"> {place} 1 {flags} 64 0 {figures(place, size)}")
                place += size
            active(self, *script, "> -\n@ 999\n> -")

    def test_a_window_that_is_smaller_than_what_is_under_way(self):
        active(self, OPEN, "write 0102 2\n> 1 1 psh+ack 64 0 0102\nwrite 0304 2\n< 1 1 ack 1 0\n> -\n< 1 1 ack 2 0\n> -",
               "< 1 1 ack 3 0\n> 3 1 ack 64 0 03\n> -\n< 1 4 ack 0 0\n> -\n< 1 4 ack 1 0\n> 4 1 psh+ack 64 0 04\n> -")

    def test_it_pays_the_acknowledgement(self):
        active(self, OPEN, "< 1 1 ack 64 0 0708\nwrite 0a 1\n> 1 3 psh+ack 62 0 0a\n> -")

    def test_it_starts_the_timer_where_una_is_nxt_alone(self):
        active(self, OPEN, "@ 10\nwrite 0a 1\n> 1 1 psh+ack 64 0 0a\n@ 600\nwrite 0b 1\n> 2 1 psh+ack 64 0 0b",
               "@ 1009\n> -\n@ 1010\n> 1 1 ack 64 0 0a0b\n@ 1500\nwrite 0c 1\n> 3 1 psh+ack 64 0 0c",
               "@ 3009\n> -\n@ 3010\n> 1 1 ack 64 0 0a0b0c\n@ 3100\n< 1 4 ack 64 0\nwrite 0d 1\n> 4 1 psh+ack 64 0 0d",
               script_of_tries(3100, "4 1 ack 64 0 0d"))

    def test_what_is_written_goes_where_it_belongs_behind_acknowledged_bytes(self):
        script = []
        for place in range(1, 400, 7):
            script.append(f"write {figures(place, 7)} 7\n> {place} 1 psh+ack 64 0 {figures(place, 7)}\n> -")
            if place > 7:
                script.append(f"< 1 {place - 3} ack 64 0\n> -")
        active(self, OPEN, *script)

    def test_the_answer_and_window_of_all_that_goes(self):
        stream = Stream("open", 17)
        active(self, stream.way, "write 0a 1\n> 1 18 psh+ack 47 0 0a\nread 3 010203\nclose True\n> 2 18 fin+ack 50 0")


class FinTest(unittest.TestCase):
    def test_in_the_states_that_send_it(self):
        active(self, OPEN, "close True\n= wait one\n> 1 1 fin+ack 64 0\n> -")
        active(self, Stream("close wait").way, "close True\n= last ack\n> 1 2 fin+ack 64 0\n> -")
        active(self, OPEN, "close True\n< 1 1 fin+ack 64 0\n= closing\n> 1 2 fin+ack 64 0\n> -")

    def test_not_ahead_of_all_bytes(self):
        active(self, SYN_SENT, "< 0 1 syn+ack 1 16\nwrite 0102 2\nclose True\n> 1 1 ack 64 0 01\n> -\n< 1 2 ack 1 0",
               "> 2 1 psh+ack 64 0 02\n> -\n< 1 3 ack 1 0\n> 3 1 fin+ack 64 0\n> -")

    def test_only_where_their_window_takes_it(self):
        active(self, SYN_SENT, "< 0 1 syn+ack 2 16\nwrite 0102 2\nclose True\n> 1 1 psh+ack 64 0 0102\n> -\n< 1 1 ack 1 0",
               "> -\n< 1 1 ack 3 0\n> 3 1 fin+ack 64 0\n> -")

    def test_it_pays_the_acknowledgement(self):
        active(self, OPEN, "< 1 1 ack 64 0 07\nclose True\n> 1 2 fin+ack 63 0\n> -")

    def test_it_starts_the_timer_where_una_is_nxt_alone(self):
        active(self, OPEN, "@ 40\nclose True\n> 1 1 fin+ack 64 0\n> -", script_of_tries(40, "1 1 fin+ack 64 0"))
        active(self, OPEN, "write 01 1\n> 1 1 psh+ack 64 0 01\n@ 700\nclose True\n> 2 1 fin+ack 64 0\n@ 999\n> -",
               "@ 1000\n> 1 1 ack 64 0 01")

    def test_none_in_close_wait_or_open(self):
        active(self, Stream("close wait").way, "> -\n@ 5000\n> -")
        active(self, OPEN, "> -\n@ 5000\n> -")


class ProbeTest(unittest.TestCase):
    SHUT = SYN_SENT + "\n< 0 1 syn+ack 0 16\n> 1 1 ack 64 0\n> -"

    def test_a_byte(self):
        active(self, self.SHUT, "@ 10\nwrite 0102 2\n@ 30\n> -\n@ 1029\n> -\n@ 1030\n> 1 1 ack 64 0 01\n> -",
               script_of_tries(1030, "1 1 ack 64 0 01"))

    def test_the_last_byte_has_psh(self):
        active(self, self.SHUT, "write 01 1\n> -\n@ 1000\n> 1 1 psh+ack 64 0 01\n> -")

    def test_the_fin(self):
        active(self, self.SHUT, "close True\n> -\n@ 999\n> -\n@ 1000\n> 1 1 fin+ack 64 0\n> -",
               script_of_tries(1000, "1 1 fin+ack 64 0"))
        active(self, self.SHUT, "< 1 1 fin+ack 0 0\n> 1 2 ack 64 0\nclose True\n= last ack\n> -\n@ 1000\n> 1 2 fin+ack 64 0")
        active(self, self.SHUT, "close True\n< 1 1 fin+ack 0 0\n= closing\n> 1 2 ack 64 0\n@ 1000\n> 1 2 fin+ack 64 0")

    def test_in_the_states_that_send_data(self):
        active(self, self.SHUT, "< 1 1 fin+ack 0 0\n> 1 2 ack 64 0\nwrite 0102 2\n> -\n@ 1000\n> 1 2 ack 64 0 01\n> -")
        active(self, self.SHUT, "write 0102 2\nclose True\n= wait one\n> -\n@ 1000\n> 1 1 ack 64 0 01\n> -")

    def test_nothing_to_send_and_no_probe(self):
        active(self, self.SHUT, "@ 1000\n> -\n@ 9999\n> -\n= open")
        active(self, self.SHUT, "close True\n> -\n@ 1000\n> 1 1 fin+ack 64 0\n< 1 2 ack 0 0\n= wait two\n@ 99999\n> -")

    def test_the_first_call_that_finds_it_so_starts_the_timer(self):
        # However late that call is.
        active(self, self.SHUT, "write 0102 2\n@ 50000\n> -\n@ 50999\n> -\n@ 51000\n> 1 1 ack 64 0 01\n> -")

    def test_that_call_goes_on(self):
        active(self, self.SHUT, "write 0102 2\n< 1 1 ack 0 0 07\n> 1 2 ack 63 0\n@ 999\n> -\n@ 1000\n> 1 2 ack 63 0 01")

    def test_it_pays_no_acknowledgement(self):
        active(self, self.SHUT, "write 0102 2\n> -\n@ 1000\n< 1 1 ack 0 0 07\n> 1 2 ack 63 0 01\n> 2 2 ack 63 0\n> -")
        active(self, self.SHUT, "close True\n> -\n@ 1000\n< 1 1 ack 0 0 07\n> 1 2 fin+ack 63 0\n> 2 2 ack 63 0\n> -")

    def test_an_acknowledgement_does_not_put_it_off(self):
        active(self, self.SHUT, "write 0102 2\n> -\n@ 600\n< 1 1 ack 0 0 07\n> 1 2 ack 63 0\n@ 999\n> -",
               "@ 1000\n> 1 2 ack 63 0 01")

    def test_it_makes_since_now_and_nothing_else(self):
        for talk in active(self, self.SHUT, "write 0102 2\n> -\n@ 1700"):
            talk.end.tries = 3
            talk.end.wait = 1500
            talk.run("> 1 1 ack 64 0 01")
            self.assertEqual((talk.end.since, talk.end.wait, talk.end.tries), (1700, 1500, 3))

    def test_it_was_not_taken(self):
        active(self, self.SHUT, "write 0102 2\n> -\n@ 1000\n> 1 1 ack 64 0 01\n< 1 1 ack 0 0\n> -\n@ 2000",
               "> 1 1 ack 64 0 01\n< 1 1 ack 0 0\n@ 3999\n> -\n@ 4000\n> 1 1 ack 64 0 01\n< 1 1 ack 5 0",
               "> 2 1 psh+ack 64 0 02\n> -")

    def test_it_was_taken(self):
        # The next one waits anew, from the first call behind that.
        active(self, self.SHUT, "write 010203 3\n> -\n@ 1000\n> 1 1 ack 64 0 01\n@ 1100\n< 1 2 ack 0 0\n@ 1200\n> -",
               "@ 2199\n> -\n@ 2200\n> 2 1 ack 64 0 02\n< 1 3 ack 0 0\n> -\n@ 3200\n> 3 1 psh+ack 64 0 03\n> -")

    def test_the_window_opens(self):
        active(self, self.SHUT, "write 0102 2\n> -\n@ 500\n< 1 1 ack 9 0\n> 1 1 psh+ack 64 0 0102\n> -",
               script_of_tries(500, "1 1 ack 64 0 0102"))

    def test_something_has_gone_and_it_is_shut_again(self):
        # What went ends the waiting: the next time starts the timer anew.
        active(self, self.SHUT, "write 010203 3\n> -\n@ 500\n< 1 1 ack 1 0\n> 1 1 ack 64 0 01\n< 1 2 ack 0 0\n@ 900\n> -",
               "@ 1899\n> -\n@ 1900\n> 2 1 ack 64 0 02")
        active(self, self.SHUT, "close True\nwrite 01 0\n> -\n@ 500\n< 1 1 ack 1 0\n> 1 1 fin+ack 64 0\n> -")

    def test_found_otherwise_and_shut_again(self):
        # A call that finds nothing to probe with lets the next one start anew.
        for talk in active(self, self.SHUT, "write 01 1\n> -\n@ 400"):
            talk.end.wnd = 1
            talk.end.state = "wait two"
            talk.run("> -")
            talk.end.wnd = 0
            talk.end.state = "open"
            talk.run("@ 1000\n> -\n@ 1999\n> -\n@ 2000\n> 1 1 psh+ack 64 0 01")

    def test_seen_open_by_no_call_it_goes_on_waiting(self):
        active(self, self.SHUT, "write 0102 2\n> -\n@ 500\n< 1 1 ack 9 0\n< 2 1 ack 0 0\n@ 999\n> -\n@ 1000",
               "> 1 1 ack 64 0 01\n> -")

    def test_not_with_something_under_way(self):
        active(self, OPEN, "write 01 1\n> 1 1 psh+ack 64 0 01\nwrite 02 1\n< 1 1 ack 0 0\n@ 500\n> -\n@ 999\n> -\n@ 1000",
               "> 1 1 ack 64 0 01\n> -\n@ 2000\n> -\n@ 2999\n> -\n@ 3000\n> 1 1 ack 64 0 01\n> -")

    def test_not_with_a_window_that_is_not_shut(self):
        active(self, OPEN, "write 0102 2\n> 1 1 psh+ack 64 0 0102\n< 1 3 ack 1 0\n@ 5000\n> -\nwrite 0304 2",
               "> 3 1 ack 64 0 03\n> -")

    def test_shut_with_bytes_for_many_segments(self):
        active(self, self.SHUT, f"write {figures(1, 64)} 64\n> -\n@ 1000\n> 1 1 ack 64 0 01\n> -\n< 1 2 ack 64 0",
               f"> 2 1 ack 64 0 {figures(2, 16)}")

    def test_a_reset_that_goes_does_not_end_the_waiting(self):
        for talk in active(self, self.SHUT, "write 0102 2\n> -\n@ 500"):
            talk.end.owed_reset = (1025, 80, talk.ours, 0, 4, 0, 0, ())
            talk.run("> 0 =0 rst 0 0\n@ 1000\n> 1 1 ack 64 0 01")


class AcknowledgementTest(unittest.TestCase):
    def test_in_syn_come_and_all_later_states(self):
        for way, talks in ((SYN_COME, passive), (SYN_COME_FROM_BOTH, active)):
            talks(self, way, "< 0 1 ack 64 0\n> 1 1 ack 64 0\n> -")
        for text in STREAMS:
            for filled in (0, 5):
                stream = Stream(text, filled)
                active(self, stream.way, "< 0 1 ack 64 0", stream.answer(), "> -")

    def test_once_for_many(self):
        for text in STREAMS:
            stream = Stream(text)
            active(self, stream.way, "< 0 1 ack 64 0\n< 0 1 ack 64 0\n< 0 =0 syn 64 16", stream.answer(), "> -")

    def test_it_does_not_touch_the_timer(self):
        for talk in active(self, OPEN, "@ 500\n< 0 1 ack 64 0"):
            before = holding(talk.end)
            talk.run("> 1 1 ack 64 0")
            before["owes_answer"] = False
            self.assertEqual(holding(talk.end), before)

    def test_of_a_window_that_opens(self):
        for text in HEARING:
            stream = Stream(text, 64)
            active(self, stream.way, f"> -\nread 0 -\n> -\nread 1 01\n> {stream.nxt} 65 ack 1 0\n> -\nread 64 {figures(2, 63)}\n> -")

    def test_its_number_lies_behind_what_was_sent(self):
        active(self, OPEN, "write 010203 3\n> 1 1 psh+ack 64 0 010203\n< 1 1 ack 64 0 07\n> 4 2 ack 63 0\n> -")


class BoundsTest(unittest.TestCase):
    def test_ports_and_numbers_somewhat_beyond_are_not_refused(self):
        for ours, first in ((65536, 4294967296), (70000, 4294967299), (1, -1)):
            end = opened(ours, 80, first, True)
            self.assertEqual(len(send(end, 0)), 24)
            self.assertEqual(send(end, 0), [])

    def test_great_times(self):
        now = 10**99
        end = opened(1025, 80, 5000, True)
        self.assertEqual(len(send(end, now)), 24)
        self.assertEqual(send(end, now + 999), [])
        self.assertEqual(len(send(end, now + 1000)), 24)


if __name__ == "__main__":
    unittest.main()
