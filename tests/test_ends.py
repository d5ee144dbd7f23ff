"""Promises [2.1], [2.2] and [2.5]: what an end holds, a new end, and what it tells."""

import unittest

from wirestream import ends
from wirestream.calls import opened
from wirestream.ends import error, our_window, start_timer, state
from wirestream.piles import lay, take

LAST = 4294967295


class NewEndTest(unittest.TestCase):
    def test_its_state_and_its_error(self):
        for first in (0, 1, 5000, LAST):
            for ours, theirs in ((0, 0), (1025, 80), (65535, 65535)):
                active = opened(ours, theirs, first, True)
                passive = opened(ours, theirs, first, False)
                self.assertEqual((state(active), error(active)), ("syn sent", ""))
                self.assertEqual((state(passive), error(passive)), ("listen", ""))

    def test_what_it_holds(self):
        for first, behind in ((0, 1), (5000, 5001), (LAST, 0)):
            for active in (True, False):
                end = opened(7, 8, first, active)
                self.assertEqual((end.ours, end.first, end.una, end.nxt), (7, first, first, first))
                self.assertEqual((end.rcv, end.wnd, end.told, end.told_by), (0, 0, 0, 0))
                self.assertEqual(end.most, 12)
                self.assertEqual((end.written.row, end.come.row, end.early, end.early_fin), ([], [], {}, None))
                self.assertEqual((end.has_closed, end.behind), (False, behind))
                self.assertEqual((end.owed_reset, end.owes_syn, end.owes_answer), (None, False, False))
                self.assertEqual((end.since, end.wait, end.tries, end.probes), (0, 1000, 0, False))
                self.assertEqual(our_window(end), 64)

    def test_an_active_one_has_their_port(self):
        self.assertEqual(opened(7, 8, 9, True).theirs, 8)

    def test_ends_share_nothing(self):
        one = opened(7, 8, 9, True)
        other = opened(7, 8, 9, True)
        lay(one.written, [1])
        lay(one.come, [2])
        one.early[5] = 6
        self.assertEqual((other.written.row, other.come.row, other.early), ([], [], {}))
        self.assertEqual((one.written.row, one.come.row), ([1], [2]))


class HeldTest(unittest.TestCase):
    def test_the_states_and_errors_are_those_of_the_document(self):
        self.assertEqual(
            [ends.CLOSED, ends.LISTEN, ends.SYN_SENT, ends.SYN_COME, ends.OPEN, ends.WAIT_ONE, ends.WAIT_TWO,
             ends.CLOSE_WAIT, ends.CLOSING, ends.LAST_ACK, ends.TIME_WAIT],
            ["closed", "listen", "syn sent", "syn come", "open", "wait one", "wait two",
             "close wait", "closing", "last ack", "time wait"],
        )
        self.assertEqual([ends.NO_ERROR, ends.REFUSED, ends.RESET, ends.TIME], ["", "refused", "reset", "time"])

    def test_an_end_tells_its_state_and_its_last_error(self):
        end = opened(7, 8, 9, True)
        for text in ("refused", "reset", "time"):
            end.state = "closed"
            end.error = text
            self.assertEqual((state(end), error(end)), ("closed", text))

    def test_our_window_is_64_less_the_bytes_that_came_in_order_and_are_not_read(self):
        end = opened(7, 8, 9, True)
        lay(end.written, [1] * 20)
        end.early[77] = 1
        self.assertEqual(our_window(end), 64)
        lay(end.come, [1] * 10)
        self.assertEqual(our_window(end), 54)
        lay(end.come, [1] * 54)
        self.assertEqual(our_window(end), 0)
        take(end.come, 3)
        self.assertEqual(our_window(end), 3)

    def test_the_timer_starts_anew(self):
        end = opened(7, 8, 9, True)
        for now in (0, 5, 10**100 - 1):
            end.wait = 16000
            end.tries = 6
            start_timer(end, now)
            self.assertEqual((end.since, end.wait, end.tries), (now, 1000, 0))


if __name__ == "__main__":
    unittest.main()
