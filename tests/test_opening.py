"""Promise [3.1]: what is dropped; resets for segments; "closed", "listen" and "syn sent"."""

import unittest

from scripts import (
    FIRSTS,
    OPEN,
    OURS,
    STREAMS,
    Stream,
    SYN_COME,
    SYN_COME_FROM_BOTH,
    SYN_SENT,
    THEIRS,
    Talk,
    active,
    figures,
    holding,
    passive,
)
from wirestream.arriving import arrive
from wirestream.calls import abort, close, opened
from wirestream.ends import error, state
from wirestream.rounds import plus
from wirestream.segments import get, put
from wirestream.sending import send

CLOSED = Stream("last ack").way + "\n< 2 2 ack 64 0\n= closed"
FLAGS = ("none", "fin", "psh", "ack", "rst", "rst+ack", "syn", "syn+ack", "fin+ack", "fin+syn+rst+psh+ack")


def ends_in_all_states():
    """Ends in each of the eleven states, by segments that came and went, with first numbers 5000 and 9000."""
    case = unittest.TestCase()
    ways = [Stream(text).way for text in STREAMS]
    ways += ["", SYN_SENT, SYN_COME_FROM_BOTH, CLOSED, "close True\n= closed"]
    found = [Talk(case, True, FIRSTS[0]).run(way).end for way in ways]
    return found + [Talk(case, False, FIRSTS[0]).run(way).end for way in ("", SYN_COME)]


class DroppedTest(unittest.TestCase):
    def assert_dropped(self, end, row):
        before = holding(end)
        handed = list(row)
        self.assertIs(arrive(end, row, 7), False, state(end))
        self.assertEqual(holding(end), before)
        self.assertEqual(row, handed)

    def test_all_states_are_there(self):
        self.assertEqual(len({state(end) for end in ends_in_all_states()}), 11)

    def test_no_right_segment(self):
        for end in ends_in_all_states():
            right = put((THEIRS, OURS, end.rcv, end.nxt, 16, 64, 0, (1, 2)))
            rows = [[], [0], right[:-1], right[:19], right[:20], right + [0, 1], [0] * 20, [255] * 20]
            rows += [right[:place] + [right[place] ^ 1] + right[place + 1:] for place in range(len(right))]
            for row in rows:
                self.assert_dropped(end, row)

    def test_another_goal(self):
        for end in ends_in_all_states():
            for goal in (OURS + 1, OURS - 1, THEIRS, 0, 65535):
                for flags in range(32):
                    self.assert_dropped(end, put((THEIRS, goal, end.rcv, end.nxt, flags, 64, 0, (1,))))

    def test_another_source(self):
        for end in ends_in_all_states():
            if state(end) not in ("closed", "listen"):
                for source in (THEIRS + 1, THEIRS - 1, OURS, 0, 65535):
                    for flags in range(32):
                        self.assert_dropped(end, put((source, OURS, end.rcv, end.nxt, flags, 64, 0, (1,))))

    def test_a_row_that_is_not_dropped_is_neither_changed_nor_kept(self):
        for end in ends_in_all_states():
            row = put((THEIRS, OURS, end.rcv, end.nxt, 16, 64, 0, (1, 2)))
            handed = list(row)
            self.assertIs(arrive(end, row, 7), True)
            self.assertEqual(row, handed)
            before = holding(end)
            row[:] = [99] * 30
            self.assertEqual(holding(end), before)

    def test_a_row_that_went_is_the_callers(self):
        for end in ends_in_all_states():
            arrive(end, put((THEIRS, OURS, end.rcv, end.nxt, 16, 64, 0, (1, 2))), 7)
            row = send(end, 7)
            before = holding(end)
            row.append(99)
            self.assertEqual(holding(end), before)


class ClosedTest(unittest.TestCase):
    def test_the_reset_for_a_segment_with_ack(self):
        for answer in (0, 1, 2, 77, -1, -2147483648, 2147483647):
            for flags in ("ack", "psh+ack", "fin+ack", "syn+ack", "fin+syn+psh+ack"):
                active(self, "close True", f"< 5 {answer} {flags} 64 0 0102", f"> {answer} =0 rst 0 0", "> -")

    def test_the_reset_for_a_segment_without_ack(self):
        for flags, many in (("none", 0), ("psh", 0), ("fin", 1), ("syn", 1), ("fin+syn", 2), ("fin+syn+psh", 2)):
            for data in ("", "0a", figures(1, 16)):
                behind = 5 + many + len(data) // 2
                talks = active(self, "close True", f"< 5 77 {flags} 64 0 {data}", f"> =0 {behind} rst+ack 0 0", "> -")
                self.assertEqual({state(talk.end) for talk in talks}, {"closed"})

    def test_its_answer_goes_round(self):
        end = opened(OURS, THEIRS, 5000, False)
        close(end)
        for number, size, answer in ((4294967295, 1, 0), (4294967295, 3, 2), (4294967290, 6, 0), (4294967290, 5, 4294967295)):
            arrive(end, put((THEIRS, OURS, number, 0, 0, 64, 0, (7,) * size)), 0)
            self.assertEqual(get(send(end, 0)), (OURS, THEIRS, 0, answer, 20, 0, 0, ()))

    def test_none_for_a_reset(self):
        for flags in ("rst", "rst+ack", "syn+rst", "fin+syn+rst+psh+ack"):
            active(self, "close True", f"~ 5 1 {flags} 64 0", "> -")

    def test_the_latest_one_alone_is_owed(self):
        active(self, "close True\n< 5 1 ack 64 0\n< 6 2 ack 64 0\n< 7 3 none 64 0 01\n~ 9 9 rst 0 0",
               "> =0 8 rst+ack 0 0\n> -")

    def test_it_goes_to_the_segments_source(self):
        end = opened(OURS, THEIRS, 5000, True)
        abort(end)
        for source in (THEIRS, 81, 0, 65535, OURS):
            self.assertIs(arrive(end, put((source, OURS, 3, 4, 16, 64, 0, ())), 0), True)
            self.assertEqual(get(send(end, 0)), (OURS, source, 4, 0, 4, 0, 0, ()))
            self.assertIs(arrive(end, put((source, OURS, 3, 4, 2, 64, 4, ())), 0), True)
            self.assertEqual(get(send(end, 0)), (OURS, source, 0, 4, 20, 0, 0, ()))

    def test_nothing_but_the_reset_comes_of_it_in_all_that_is_closed(self):
        ways = (("close True", ""), (OPEN + "\nabort True\n> 1 =0 rst 0 0", ""), (CLOSED, ""),
                (SYN_SENT + "\n< 0 1 rst+ack 0 0", "refused"), (OPEN + "\n< 1 1 rst 0 0", "reset"))
        for way, last_error in ways:
            for flags in FLAGS:
                for talk in active(self, way):
                    before = holding(talk.end)
                    talk.run(f"< 2 2 {flags} 64 0 0102\n= closed {last_error}")
                    before["owed_reset"] = talk.end.owed_reset
                    self.assertEqual(holding(talk.end), before)
                    self.assertEqual(talk.end.owed_reset is None, "rst" in flags)

    def test_what_was_owed_ahead_of_it(self):
        active(self, OPEN, "< 1 1 ack 64 0 0102\nabort True\n< 3 1 ack 64 0 03\n> 1 =0 rst 0 0\n> -")
        active(self, OPEN, "abort True\n< 1 9 ack 64 0\n> 9 =0 rst 0 0\n> -")


class ListenTest(unittest.TestCase):
    def test_resets_and_what_is_neither_syn_nor_ack_do_nothing(self):
        for flags in ("rst", "rst+ack", "syn+rst", "syn+rst+ack", "fin+syn+rst+psh+ack", "none", "fin", "psh", "fin+psh"):
            for data in ("", "0102"):
                passive(self, f"~ 0 1 {flags} 64 0 {data}\n> -\n= listen")

    def test_ack_is_answered_by_the_reset_for_it(self):
        for flags in ("ack", "syn+ack", "fin+ack", "psh+ack", "fin+syn+psh+ack"):
            for answer in (0, 1, 2, -7):
                for talk in passive(self):
                    before = holding(talk.end)
                    talk.run(f"< 0 {answer} {flags} 64 0 0102")
                    before["owed_reset"] = talk.end.owed_reset
                    self.assertEqual(holding(talk.end), before)
                    talk.end.theirs = THEIRS
                    talk.run(f"> {answer} =0 rst 0 0\n> -\n= listen\n{SYN_COME}")

    def test_that_reset_goes_to_its_source_and_theirs_is_not_known_by_it(self):
        end = opened(OURS, 7, 5000, False)
        arrive(end, put((81, OURS, 3, 4, 16, 64, 0, ())), 0)
        self.assertEqual(get(send(end, 0)), (OURS, 81, 4, 0, 4, 0, 0, ()))
        arrive(end, put((82, OURS, 3, 0, 2, 64, 0, ())), 0)
        self.assertEqual(get(send(end, 0)), (OURS, 82, 5000, 4, 18, 64, 16, ()))

    def test_syn(self):
        for window, most, heard in ((64, 16, 16), (0, 4, 4), (65535, 65535, 65535), (7, 0, 12)):
            for talk in passive(self, f"< 0 1 syn {window} {most}\n= syn come"):
                end = talk.end
                self.assertEqual((end.theirs, end.rcv), (THEIRS, plus(talk.theirs, 1)))
                self.assertEqual((end.wnd, end.told, end.told_by, end.most), (window, talk.theirs, 0, heard))
                self.assertEqual((end.una, end.nxt), (talk.ours, talk.ours))
                talk.run("> 0 1 syn+ack 64 16\n> -")

    def test_data_and_fin_of_a_syn_count_for_nothing(self):
        for flags in ("syn", "fin+syn", "syn+psh", "fin+syn+psh"):
            passive(self, f"< 0 =0 {flags} 64 16 0102\n= syn come\n> 0 1 syn+ack 64 16\n> -",
                    "read 9 -\n< 1 1 ack 64 0 07\n= open\n> 1 2 ack 63 0\nread 9 07")

    def test_others_are_dropped_once_the_other_side_is_known(self):
        end = opened(OURS, 0, 5000, False)
        self.assertIs(arrive(end, put((81, OURS, 9000, 0, 2, 64, 16, ())), 0), True)
        self.assertIs(arrive(end, put((82, OURS, 9000, 0, 2, 64, 16, ())), 0), False)
        self.assertIs(arrive(end, put((81, OURS, 9000, 0, 2, 64, 16, ())), 0), True)

    def test_nothing_goes_by_itself(self):
        passive(self, "> -\n@ 1000000\n> -\n= listen")


class SynSentTest(unittest.TestCase):
    def test_an_answer_ahead_of_our_syn(self):
        for answer in (0, 1, 2):
            for flags in ("ack", "syn+ack", "fin+ack"):
                active(self, f"< 0 {answer} {flags} 64 0 07\n> {answer} =0 rst 0 0\n= syn sent", SYN_SENT, "> -")
            for flags in ("rst+ack", "syn+rst+ack"):
                active(self, f"~ 0 {answer} {flags} 64 0\n= syn sent", SYN_SENT)

    def test_a_wrong_answer(self):
        for answer in (0, 2, 3, -1, 65, -2147483647):
            for flags in ("ack", "syn+ack", "fin+syn+psh+ack"):
                active(self, SYN_SENT, f"< 0 {answer} {flags} 64 0 07\n> {answer} =0 rst 0 0\n> -\n= syn sent")
            for flags in ("rst+ack", "syn+rst+ack"):
                active(self, SYN_SENT, f"~ 0 {answer} {flags} 64 0\n> -\n= syn sent")

    def test_a_reset(self):
        for flags in ("rst+ack", "syn+rst+ack", "fin+syn+rst+psh+ack"):
            active(self, SYN_SENT, f"< 3 1 {flags} 0 0\n= closed refused\n> -\n@ 9999\n> -")
        for flags in ("rst", "syn+rst", "fin+rst"):
            active(self, SYN_SENT, f"~ 0 1 {flags} 0 0\n~ 1 0 {flags} 0 0\n= syn sent\n> -")
            active(self, f"~ 0 1 {flags} 0 0\n~ 1 0 {flags} 0 0\n= syn sent", SYN_SENT)

    def test_what_is_neither_syn_nor_rst(self):
        for flags in ("none", "fin", "psh", "ack", "psh+ack", "fin+ack"):
            for data in ("", "0102"):
                active(self, SYN_SENT, f"~ 0 1 {flags} 64 0 {data}\n~ 1 1 {flags} 64 0 {data}\n> -\n= syn sent")
        for flags in ("none", "fin", "psh"):
            active(self, f"~ 0 1 {flags} 64 0 01\n= syn sent", SYN_SENT)

    def test_syn_with_ack(self):
        for window, most, heard in ((64, 16, 16), (0, 4, 4), (65535, 65535, 65535), (7, 0, 12)):
            for talk in active(self, SYN_SENT, f"< 0 1 syn+ack {window} {most}\n= open"):
                end = talk.end
                behind = plus(talk.ours, 1)
                self.assertEqual((end.rcv, end.una, end.nxt), (plus(talk.theirs, 1), behind, behind))
                self.assertEqual((end.wnd, end.told, end.told_by, end.most), (window, talk.theirs, behind, heard))
                talk.run("> 1 1 ack 64 0\n> -\n@ 99999\n> -\n= open")

    def test_what_was_written_ahead_goes_then(self):
        active(self, f"write {figures(1, 20)} 20", SYN_SENT, "< 0 1 syn+ack 64 16",
               f"> 1 1 ack 64 0 {figures(1, 16)}\n> 17 1 psh+ack 64 0 {figures(17, 4)}\n> -")
        active(self, f"write {figures(1, 20)} 20", SYN_SENT, "< 0 1 syn+ack 64 0",
               f"> 1 1 ack 64 0 {figures(1, 12)}\n> 13 1 psh+ack 64 0 {figures(13, 8)}\n> -")
        active(self, f"write {figures(1, 6)} 6", SYN_SENT, "< 0 1 syn+ack 64 4",
               f"> 1 1 ack 64 0 {figures(1, 4)}\n> 5 1 psh+ack 64 0 {figures(5, 2)}\n> -")

    def test_data_and_fin_of_a_syn_count_for_nothing(self):
        for flags in ("syn+ack", "fin+syn+ack", "fin+syn+psh+ack"):
            active(self, SYN_SENT, f"< 0 1 {flags} 64 16 0102\n= open\n> 1 1 ack 64 0\nread 9 -",
                   "< 1 1 ack 64 0 07\n> 1 2 ack 63 0\nread 9 07")
        for flags in ("syn", "fin+syn"):
            active(self, SYN_SENT, f"< 0 1 {flags} 64 16 0102\n= syn come\n> 0 1 syn+ack 64 16\n> -",
                   "< 1 1 ack 64 0 07\n= open\n> 1 2 ack 63 0\nread 9 07")

    def test_syn_without_ack(self):
        for window, most, heard in ((64, 16, 16), (0, 4, 4), (65535, 65535, 65535), (7, 0, 12)):
            for answer in ("=0", "=7", "0", "1", "2"):
                for talk in active(self, SYN_SENT, f"< 0 {answer} syn {window} {most}\n= syn come"):
                    end = talk.end
                    self.assertEqual((end.rcv, end.una), (plus(talk.theirs, 1), talk.ours))
                    self.assertEqual((end.wnd, end.told, end.told_by, end.most), (window, talk.theirs, 0, heard))
                    talk.run("> 0 1 syn+ack 64 16\n> -")

    def test_syn_ahead_of_our_own(self):
        active(self, "< 0 =0 syn 64 16\n= syn come\n> 0 1 syn+ack 64 16\n> -\n< 1 1 ack 64 0\n= open\n> -")

    def test_syn_starts_the_timer(self):
        active(self, SYN_SENT, "@ 900\n< 0 =0 syn 64 16\n> 0 1 syn+ack 64 16\n@ 1899\n> -",
               "@ 1900\n> 0 1 syn+ack 64 16\n@ 3899\n> -\n@ 3900\n> 0 1 syn+ack 64 16")
        # Our syn went again twice; the wait is 1000 once more all the same, and six more tries are there.
        active(self, SYN_SENT, "@ 1000\n> 0 =0 syn 64 16\n@ 3000\n> 0 =0 syn 64 16\n@ 3500\n< 0 =0 syn 64 16",
               "> 0 1 syn+ack 64 16\n@ 4499\n> -\n@ 4500\n> 0 1 syn+ack 64 16\n@ 6500\n> 0 1 syn+ack 64 16",
               "@ 10500\n> 0 1 syn+ack 64 16\n@ 18500\n> 0 1 syn+ack 64 16\n@ 34500\n> 0 1 syn+ack 64 16",
               "@ 50500\n> 0 1 syn+ack 64 16\n@ 66499\n> -\n= syn come\n@ 66500\n> -\n= closed time")

    def test_a_syn_again_is_not_heard_twice(self):
        active(self, SYN_COME_FROM_BOTH, "< 0 =0 syn 1 4\n> 0 1 syn+ack 64 16\n> -")
        for talk in active(self, SYN_COME_FROM_BOTH, "< 0 =0 syn 1 4"):
            self.assertEqual((talk.end.wnd, talk.end.most), (64, 16))


class NothingElseTest(unittest.TestCase):
    def test_errors_stay_empty_where_none_is_told(self):
        for end in ends_in_all_states():
            self.assertEqual(error(end), "")


if __name__ == "__main__":
    unittest.main()
