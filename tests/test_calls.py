"""Promises [2.2], [2.3], [2.4] and [0.1]: what the user of an end asks of it.

States that only a segment leads to are set in the end's record here."""

import unittest

from wirestream.calls import abort, close, opened, read, write
from wirestream.ends import error, state
from wirestream.piles import lay

STATES = ("closed", "listen", "syn sent", "syn come", "open", "wait one", "wait two", "close wait", "closing",
          "last ack", "time wait")
BEHIND_CLOSE = {"listen": "closed", "syn sent": "closed", "syn come": "syn come", "open": "wait one",
                "close wait": "last ack"}
TAKE_BYTES = ("syn sent", "syn come", "open", "close wait")
WITH_A_RESET = ("syn come", "open", "wait one", "wait two", "close wait", "closing", "last ack")
# The states in which an end that has closed may be.
HAVE_CLOSED = ("syn come", "wait one", "wait two", "closing", "last ack", "time wait", "closed")
LAST = 4294967295


def in_state(text):
    end = opened(1025, 80, 5000, True)
    end.state = text
    end.nxt = 5001
    return end


def closed_ends():
    """Every way to "closed" that needs no segment."""
    found = []
    for active in (True, False):
        for call in (close, abort):
            end = opened(1025, 80, 5000, active)
            call(end)
            found.append(end)
    return found


def holding(end):
    held = dict(vars(end))
    for name in ("written", "come"):
        held[name] = list(held[name].row)
    held["early"] = dict(held["early"])
    return held


class WriteTest(unittest.TestCase):
    def test_a_new_active_end_takes_up_to_64(self):
        for many in (0, 1, 2, 63, 64, 65, 66, 128, 1000):
            end = opened(1025, 80, 5000, True)
            row = [place % 256 for place in range(many)]
            self.assertEqual(write(end, row), min(many, 64))
            self.assertEqual(end.written.row, row[:64])
            self.assertEqual((state(end), error(end)), ("syn sent", ""))

    def test_in_several_steps(self):
        end = opened(1025, 80, 5000, True)
        taken = [write(end, [many] * many) for many in (10, 0, 30, 23, 5, 1, 0, 64)]
        self.assertEqual(taken, [10, 0, 30, 23, 1, 0, 0, 0])
        self.assertEqual(end.written.row, [10] * 10 + [30] * 30 + [23] * 23 + [5])

    def test_a_new_passive_end_takes_none(self):
        end = opened(1025, 80, 5000, False)
        self.assertEqual(write(end, [1, 2, 3]), 0)
        self.assertEqual(write(end, []), 0)
        self.assertEqual(end.written.row, [])

    def test_an_end_that_is_closed_takes_none(self):
        for end in closed_ends():
            self.assertEqual(state(end), "closed")
            self.assertEqual(write(end, [1, 2, 3]), 0)
            self.assertEqual(end.written.row, [])

    def test_bytes_that_were_taken_ahead_of_a_close_stay(self):
        end = opened(1025, 80, 5000, True)
        self.assertEqual(write(end, [1, 2]), 2)
        close(end)
        self.assertEqual(write(end, [3]), 0)
        self.assertEqual(end.written.row, [1, 2])

    def test_by_the_state(self):
        for text in STATES:
            end = in_state(text)
            before = holding(end)
            taken = 3 if text in TAKE_BYTES else 0
            self.assertEqual(write(end, [1, 2, 3]), taken, text)
            self.assertEqual(end.written.row, [1, 2, 3][:taken])
            before["written"] = [1, 2, 3][:taken]
            before["behind"] = 5001 + taken
            self.assertEqual(holding(end), before)

    def test_by_the_state_up_to_64(self):
        for text in TAKE_BYTES:
            end = in_state(text)
            self.assertEqual(write(end, [4] * 60), 60)
            self.assertEqual(write(end, [5] * 60), 4)
            self.assertEqual(write(end, [6]), 0)
            self.assertEqual(end.written.row, [4] * 60 + [5] * 4)

    def test_none_behind_a_close(self):
        for text in ("syn come", "open", "close wait"):
            end = in_state(text)
            self.assertEqual(write(end, [1]), 1)
            self.assertIs(close(end), True)
            self.assertEqual(write(end, [2]), 0, text)
            self.assertEqual(end.written.row, [1])

    def test_the_end_of_ours_lies_behind_the_last_byte_written(self):
        for first, behind in ((0, 71), (5000, 5071), (4294967290, 65), (LAST, 70)):
            end = opened(1025, 80, first, True)
            self.assertEqual(write(end, [9] * 50), 50)
            self.assertEqual(write(end, [9] * 50), 14)
            # Bytes that are acknowledged leave the pile, and the end's number stays.
            end.written.row = []
            self.assertEqual(write(end, [9] * 6), 6)
            self.assertEqual(end.behind, behind)


class ReadTest(unittest.TestCase):
    def test_nothing_is_there_in_ends_that_heard_nothing(self):
        for end in closed_ends() + [opened(1, 2, 3, True), opened(1, 2, 3, False)]:
            for many in (0, 1, 64, 10**100 - 1):
                self.assertEqual(read(end, many), [])

    def test_what_was_written_is_not_read_here(self):
        end = opened(1025, 80, 5000, True)
        write(end, [1, 2, 3])
        self.assertEqual(read(end, 3), [])
        self.assertEqual(end.written.row, [1, 2, 3])

    def test_of_nothing_of_less_and_of_more_in_every_state(self):
        for text in STATES:
            end = in_state(text)
            lay(end.come, [10, 20, 30, 40, 50])
            self.assertEqual(read(end, 0), [])
            self.assertEqual(read(end, 2), [10, 20])
            self.assertEqual(read(end, 1), [30])
            self.assertEqual(read(end, 0), [])
            self.assertEqual(read(end, 3), [40, 50])
            self.assertEqual(read(end, 3), [])
            self.assertEqual(state(end), text)

    def test_of_just_what_is_there_and_of_very_much(self):
        for many in (5, 6, 64, 65, 10**100 - 1):
            end = in_state("open")
            lay(end.come, [10, 20, 30, 40, 50])
            self.assertEqual(read(end, many), [10, 20, 30, 40, 50])
            self.assertEqual(read(end, many), [])

    def test_an_acknowledgement_is_owed_once_a_shut_window_is_not_shut(self):
        for text in STATES:
            for many in (1, 2, 64, 100):
                end = in_state(text)
                lay(end.come, [1] * 64)
                read(end, many)
                self.assertIs(end.owes_answer, text in ("open", "wait one", "wait two"), text)

    def test_none_is_owed_where_the_window_stays_shut_or_was_not(self):
        for text in STATES:
            end = in_state(text)
            lay(end.come, [1] * 64)
            read(end, 0)
            self.assertIs(end.owes_answer, False)
            end = in_state(text)
            lay(end.come, [1] * 63)
            read(end, 63)
            self.assertIs(end.owes_answer, False)

    def test_one_that_is_owed_already_stays(self):
        end = in_state("open")
        end.owes_answer = True
        read(end, 1)
        self.assertIs(end.owes_answer, True)

    def test_nothing_else_changes(self):
        for text in STATES:
            end = in_state(text)
            lay(end.come, [1, 2, 3])
            before = holding(end)
            read(end, 2)
            before["come"] = [3]
            self.assertEqual(holding(end), before)


class CloseTest(unittest.TestCase):
    def test_new_ends(self):
        for active in (True, False):
            end = opened(1025, 80, 5000, active)
            self.assertIs(close(end), True)
            self.assertEqual((state(end), error(end)), ("closed", ""))
            self.assertIsNone(end.owed_reset)
            self.assertIs(close(end), False)
            self.assertIs(close(end), False)
            self.assertEqual((state(end), error(end)), ("closed", ""))

    def test_ends_that_are_closed(self):
        for end in closed_ends():
            before = holding(end)
            self.assertIs(close(end), False)
            self.assertEqual(holding(end), before)

    def test_by_the_state(self):
        for text in STATES:
            end = in_state(text)
            before = holding(end)
            self.assertIs(close(end), text in BEHIND_CLOSE, text)
            before["state"] = BEHIND_CLOSE.get(text, text)
            before["has_closed"] = text in ("syn come", "open", "close wait")
            self.assertEqual(holding(end), before)

    def test_when_called_again(self):
        for text in STATES:
            end = in_state(text)
            close(end)
            before = holding(end)
            self.assertIs(close(end), False, text)
            self.assertEqual(holding(end), before)

    def test_an_end_that_has_closed(self):
        for text in HAVE_CLOSED:
            end = in_state(text)
            end.has_closed = True
            before = holding(end)
            self.assertIs(close(end), False, text)
            self.assertEqual(holding(end), before)


class AbortTest(unittest.TestCase):
    def test_new_ends(self):
        for active in (True, False):
            end = opened(1025, 80, 5000, active)
            self.assertIs(abort(end), True)
            self.assertEqual((state(end), error(end)), ("closed", ""))
            self.assertIsNone(end.owed_reset)
            self.assertIs(abort(end), False)
            self.assertEqual((state(end), error(end)), ("closed", ""))

    def test_ends_that_are_closed(self):
        for end in closed_ends():
            before = holding(end)
            self.assertIs(abort(end), False)
            self.assertEqual(holding(end), before)

    def test_by_the_state(self):
        for text in STATES:
            for has_closed in (False, True):
                end = in_state(text)
                end.nxt = 5017
                end.rcv = 99
                end.has_closed = has_closed
                before = holding(end)
                self.assertIs(abort(end), text != "closed", text)
                before["state"] = "closed"
                before["owed_reset"] = (1025, 80, 5017, 0, 4, 0, 0, ()) if text in WITH_A_RESET else None
                self.assertEqual(holding(end), before)

    def test_when_called_again(self):
        for text in STATES:
            end = in_state(text)
            abort(end)
            before = holding(end)
            self.assertIs(abort(end), False)
            self.assertIs(close(end), False)
            self.assertEqual(holding(end), before)

    def test_the_latest_reset_alone_is_owed(self):
        older = (1025, 81, 7, 0, 4, 0, 0, ())
        for text in STATES:
            end = in_state(text)
            end.owed_reset = older
            abort(end)
            self.assertEqual(end.owed_reset, (1025, 80, 5001, 0, 4, 0, 0, ()) if text in WITH_A_RESET else older)

    def test_what_came_can_still_be_read_and_nothing_is_written(self):
        for text in STATES:
            end = in_state(text)
            lay(end.come, [1, 2, 3])
            abort(end)
            self.assertEqual(write(end, [4]), 0)
            self.assertEqual(read(end, 2), [1, 2])
            self.assertEqual(read(end, 2), [3])


class HandedInTest(unittest.TestCase):
    def test_a_row_that_is_written_stays_as_it_was(self):
        for active in (True, False):
            for many in (0, 3, 64, 65, 100):
                end = opened(1025, 80, 5000, active)
                row = list(range(many))
                write(end, row)
                self.assertEqual(row, list(range(many)))

    def test_changing_a_row_that_was_written_changes_nothing_in_the_end(self):
        for many in (3, 64, 65):
            end = opened(1025, 80, 5000, True)
            row = list(range(many))
            write(end, row)
            row[0] = 99
            row.append(98)
            self.assertEqual(end.written.row, list(range(min(many, 64))))
            row.clear()
            self.assertEqual(end.written.row, list(range(min(many, 64))))

    def test_changing_a_row_that_was_given_changes_nothing_in_the_end(self):
        end = in_state("open")
        lay(end.come, [1, 2, 3, 4])
        for many, wanted in ((0, []), (2, [1, 2]), (9, [3, 4]), (9, [])):
            row = read(end, many)
            self.assertEqual(row, wanted)
            row.append(99)
            row[0] = 98
        self.assertEqual(read(end, 9), [])

    def test_ends_have_nothing_in_common(self):
        one = opened(1025, 80, 5000, True)
        other = opened(1025, 80, 5000, True)
        row = [1, 2, 3]
        write(one, row)
        write(other, row)
        write(one, [4])
        self.assertEqual((one.written.row, other.written.row), ([1, 2, 3, 4], [1, 2, 3]))
        abort(one)
        self.assertEqual((state(one), state(other)), ("closed", "syn sent"))


if __name__ == "__main__":
    unittest.main()
