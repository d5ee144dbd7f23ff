"""Promises [5.1] to [5.4]: hosts, and what the interface says of them."""

import copy
import random
import unittest

from scripts import holding
from wirestream.calls import abort, close, read, write
from wirestream.ends import error, state
from wirestream.errors import NoPort, WireError
from wirestream.hosts import Host
from wirestream.notes import read as segment_of_line
from wirestream.notes import shown
from wirestream.rounds import plus
from wirestream.segments import get, put

ALL_FLAGS = ("fin", "syn", "rst", "psh", "ack")


def row_of(line):
    return put(segment_of_line(line))


def next_line(host, now=0):
    row = host.sends(now)
    return "" if row == [] else shown(get(row))


def lines(host, now=0):
    """All that goes."""
    found = []
    line = next_line(host, now)
    while line != "":
        found.append(line)
        line = next_line(host, now)
    return found


def held_by(host):
    held = dict(vars(host))
    held["ends"] = [holding(end) for end in host.ends]
    held["latest"] = {ports: holding(end) for ports, end in host.latest.items()}
    held["untaken"] = {port: [holding(end) for end in ends] for port, ends in host.untaken.items()}
    return held


def called_host(first=5000):
    """A host with an open end of the ports 1025 and 80; their first number is 9000."""
    host = Host(first)
    end = host.calls(1025, 80)
    assert next_line(host) == f"1025 80 {first} 0 syn 64 16"
    answer = plus(first, 1)
    host.arrives(row_of(f"80 1025 9000 {answer} syn+ack 64 16"), 0)
    assert next_line(host) == f"1025 80 {answer} 9001 ack 64 0"
    assert state(end) == "open"
    return host, end


def listening_host(ports=(80,), first=5000):
    host = Host(first)
    for port in ports:
        host.listens(port)
    return host


def come_in(host, source, goal=80):
    """Opens an end of a port that listens, up to "open"; their first number is 9000."""
    host.arrives(row_of(f"{source} {goal} 9000 0 syn 64 16"), 0)
    line = next_line(host)
    number = int(line.split()[2])
    host.arrives(row_of(f"{source} {goal} 9001 {plus(number, 1)} ack 64 0"), 0)
    return line


class InterfaceTest(unittest.TestCase):
    def test_kinds(self):
        host = Host(7)
        self.assertIsNone(host.listens(80))
        self.assertIsNone(host.taken_end(80))
        self.assertEqual(state(host.calls(1025, 80)), "syn sent")
        self.assertIs(host.arrives([], 0), False)
        self.assertIs(host.arrives(row_of("1 2 3 4 rst 0 0"), 0), True)
        self.assertIs(type(host.sends(0)), list)
        self.assertEqual(host.sends(0), [])
        self.assertEqual(Host(0).sends(0), [])

    def test_no_port_is_a_refusal(self):
        self.assertTrue(issubclass(NoPort, WireError))

    def test_hosts_have_nothing_in_common(self):
        one, other = Host(7), Host(7)
        one.listens(80)
        one.calls(1, 2)
        other.listens(80)
        other.calls(1, 2)
        self.assertEqual(len(other.ends), 1)
        self.assertEqual([next_line(one), next_line(other)], ["1 2 7 0 syn 64 16"] * 2)


class FirstTest(unittest.TestCase):
    def test_64000_apart_and_round(self):
        for first in (0, 5000, 4294967295, 4294967296 - 64000, 4294967296 - 64001, 4294967296 - 128000, 2147483648):
            host = Host(first)
            for place in range(6):
                host.calls(1000 + place, 80)
            wanted = [f"{1000 + place} 80 {(first + 64000 * place) % 4294967296} 0 syn 64 16" for place in range(6)]
            self.assertEqual(lines(host), wanted)

    def test_over_more_than_a_whole_round(self):
        host = Host(4294967295)
        for place in range(67200):
            end = host.calls(1, 2)
            close(end)
            self.assertEqual(end.first, (4294967295 + 64000 * place) % 4294967296)

    def test_both_kinds_of_ends_count(self):
        host = listening_host((80, 81), 4294967290)
        host.calls(5, 6)
        host.arrives(row_of("7 80 9000 0 syn 64 16"), 0)
        host.calls(5, 7)
        host.arrives(row_of("7 81 9000 0 syn 64 16"), 0)
        self.assertEqual(lines(host), ["5 6 4294967290 0 syn 64 16", "80 7 63994 9001 syn+ack 64 16",
                                       "5 7 127994 0 syn 64 16", "81 7 191994 9001 syn+ack 64 16"])

    def test_what_makes_no_end_uses_none(self):
        host = listening_host()
        host.calls(5, 6)
        for attempt in range(3):
            self.assertRaises(NoPort, host.calls, 5, 6)
            self.assertRaises(NoPort, host.listens, 80)
            host.arrives(row_of("7 80 9000 1 ack 64 0"), 0)
            host.arrives(row_of("7 80 9000 1 rst 64 0"), 0)
            host.arrives(row_of("7 90 9000 0 syn 64 16"), 0)
            host.arrives([1, 2, 3], 0)
        self.assertEqual(host.calls(5, 7).first, 69000)


class CallsTest(unittest.TestCase):
    def test_an_active_end_of_these_ports(self):
        host = Host(5000)
        end = host.calls(1025, 80)
        self.assertEqual((state(end), error(end)), ("syn sent", ""))
        self.assertEqual(write(end, [1, 2, 3]), 3)
        self.assertEqual(lines(host), ["1025 80 5000 0 syn 64 16"])

    def test_not_where_one_is_there(self):
        host = Host(5000)
        end = host.calls(1025, 80)
        self.assertRaises(NoPort, host.calls, 1025, 80)
        for ours, theirs in ((80, 1025), (1025, 81), (1026, 80), (80, 80), (1025, 1025)):
            other = host.calls(ours, theirs)
            self.assertFalse(other is end)
            self.assertRaises(NoPort, host.calls, ours, theirs)

    def test_not_in_any_state_but_closed(self):
        seen = {}
        host, end = called_host()

        def expect(text):
            self.assertEqual(state(end), text)
            seen[text] = True
            if text == "closed":
                self.assertEqual(state(host.calls(1025, 80)), "syn sent")
            else:
                self.assertRaises(NoPort, host.calls, 1025, 80)

        expect("open")
        close(end)
        expect("wait one")
        self.assertEqual(lines(host), ["1025 80 5001 9001 fin+ack 64 0"])
        host.arrives(row_of("80 1025 9001 5002 ack 64 0"), 0)
        expect("wait two")
        host.arrives(row_of("80 1025 9001 5002 fin+ack 64 0"), 0)
        expect("time wait")
        self.assertEqual(lines(host), ["1025 80 5002 9002 ack 64 0"])
        host.sends(120000)
        expect("closed")
        host, end = called_host()
        host.arrives(row_of("80 1025 9001 5001 fin+ack 64 0"), 0)
        expect("close wait")
        close(end)
        expect("last ack")
        abort(end)
        expect("closed")
        host, end = called_host()
        close(end)
        host.arrives(row_of("80 1025 9001 5001 fin+ack 64 0"), 0)
        expect("closing")
        self.assertEqual(len(seen), 8)

    def test_not_where_a_port_that_listens_made_it(self):
        host = listening_host()
        host.arrives(row_of("7 80 9000 0 syn 64 16"), 0)
        self.assertRaises(NoPort, host.calls, 80, 7)
        end = host.calls(80, 8)
        self.assertEqual(state(end), "syn sent")
        host.arrives(row_of("7 80 9001 0 rst 0 0"), 0)
        self.assertEqual(state(host.calls(80, 7)), "syn sent")

    def test_once_it_is_closed(self):
        host = Host(5000)
        end = host.calls(1025, 80)
        close(end)
        other = host.calls(1025, 80)
        self.assertFalse(other is end)
        self.assertRaises(NoPort, host.calls, 1025, 80)
        self.assertEqual(lines(host), ["1025 80 69000 0 syn 64 16"])
        self.assertEqual((state(end), state(other)), ("closed", "syn sent"))

    def test_from_a_port_that_listens(self):
        host = listening_host((1025,))
        end = host.calls(1025, 80)
        self.assertEqual(lines(host), ["1025 80 5000 0 syn 64 16"])
        # Their syn goes to it, and makes no other.
        host.arrives(row_of("80 1025 9000 0 syn 64 16"), 0)
        self.assertEqual(state(end), "syn come")
        self.assertEqual(lines(host), ["1025 80 5000 9001 syn+ack 64 16"])
        host.arrives(row_of("80 1025 9001 5001 ack 64 0"), 0)
        self.assertEqual(state(end), "open")
        self.assertIsNone(host.taken_end(1025))


class ListensTest(unittest.TestCase):
    def test_once(self):
        host = Host(5000)
        for port in (80, 0, 65535):
            self.assertIsNone(host.listens(port))
            self.assertRaises(NoPort, host.listens, port)
            self.assertRaises(NoPort, host.listens, port)

    def test_though_ends_of_this_port_are_there(self):
        host, end = called_host()
        host.listens(1025)
        self.assertRaises(NoPort, host.listens, 1025)
        self.assertEqual(state(end), "open")

    def test_still_with_ends_made_and_taken(self):
        host = listening_host()
        come_in(host, 7)
        self.assertRaises(NoPort, host.listens, 80)
        host.taken_end(80)
        self.assertRaises(NoPort, host.listens, 80)

    def test_from_now_on(self):
        host = Host(5000)
        host.arrives(row_of("7 80 9000 0 syn 64 16"), 0)
        self.assertEqual(lines(host), ["80 7 0 9001 rst+ack 0 0"])
        host.listens(80)
        host.arrives(row_of("7 80 9000 0 syn 64 16"), 0)
        self.assertEqual(lines(host), ["80 7 5000 9001 syn+ack 64 16"])


def names_of(flags):
    return "+".join([name for place, name in enumerate(ALL_FLAGS) if flags >> place & 1]) or "none"


def wanted_reset(flags, goal, source):
    """For a segment with the number 9000, the answer 77 and two bytes."""
    if flags & 4:
        return []
    if flags & 16:
        return [f"{goal} {source} 77 0 rst 0 0"]
    return [f"{goal} {source} 0 {9002 + (flags & 1) + (flags >> 1 & 1)} rst+ack 0 0"]


class ArrivesTest(unittest.TestCase):
    def segment(self, flags, source, goal):
        return row_of(f"{source} {goal} 9000 77 {names_of(flags)} 64 0 0102")

    def test_no_right_segment(self):
        host, end = called_host()
        host.listens(80)
        before = held_by(host)
        right = self.segment(2, 7, 80)
        for row in ([], [0] * 20, right[:-1], right[:20], right + [1]):
            self.assertIs(host.arrives(row, 0), False)
            self.assertEqual(held_by(host), before)
        self.assertEqual(lines(host), [])

    def test_to_other_ports(self):
        for flags in range(32):
            host, end = called_host()
            host.listens(80)
            before = holding(end)
            for source, goal in ((7, 90), (80, 1024), (81, 1025), (1025, 1025)):
                self.assertIs(host.arrives(self.segment(flags, source, goal), 0), True)
                self.assertEqual(lines(host), wanted_reset(flags, goal, source))
            self.assertEqual(holding(end), before)
            self.assertEqual(len(host.ends), 1)

    def test_to_a_port_that_listens(self):
        for flags in range(32):
            host = listening_host()
            self.assertIs(host.arrives(self.segment(flags, 7, 80), 0), True)
            if flags & 22 == 2:
                self.assertEqual(lines(host), ["80 7 5000 9001 syn+ack 64 16"])
                self.assertEqual([state(end) for end in host.ends], ["syn come"])
            else:
                self.assertEqual(lines(host), wanted_reset(flags, 80, 7))
                self.assertEqual(host.ends, [])

    def test_to_ports_with_an_end_that_is_closed(self):
        for flags in range(32):
            for listens in (False, True):
                host, end = called_host()
                host.arrives(row_of("80 1025 9001 0 rst 0 0"), 0)
                self.assertEqual((state(end), error(end)), ("closed", "reset"))
                before = holding(end)
                if listens:
                    host.listens(1025)
                self.assertIs(host.arrives(self.segment(flags, 80, 1025), 0), True)
                if listens and flags & 22 == 2:
                    self.assertEqual(lines(host), ["1025 80 69000 9001 syn+ack 64 16"])
                else:
                    self.assertEqual(lines(host), wanted_reset(flags, 1025, 80))
                self.assertEqual(holding(end), before)

    def test_to_ports_with_an_end(self):
        host, end = called_host()
        host.listens(1025)
        write(end, [1, 2])
        self.assertIs(host.arrives(row_of("80 1025 9001 5001 psh+ack 64 0 0a0b"), 0), True)
        self.assertEqual(lines(host), ["1025 80 5001 9003 psh+ack 62 0 0102"])
        self.assertEqual(read(end, 9), [10, 11])
        self.assertIs(host.arrives(row_of("80 1025 9000 0 syn 64 16"), 0), True)
        self.assertEqual(lines(host), ["1025 80 5003 9003 ack 64 0"])
        self.assertIs(host.arrives(row_of("80 1025 9003 5003 rst 64 0"), 0), True)
        self.assertEqual((state(end), error(end), len(host.ends)), ("closed", "reset", 1))
        self.assertEqual(lines(host), [])

    def test_to_each_its_own(self):
        host = listening_host((80, 81))
        for source, goal in ((7, 80), (8, 80), (7, 81), (80, 80)):
            come_in(host, source, goal)
        ends = [host.taken_end(80), host.taken_end(80), host.taken_end(80), host.taken_end(81)]
        for place, (source, goal) in enumerate(((7, 80), (8, 80), (80, 80), (7, 81))):
            end = ends[place]
            host.arrives(row_of(f"{source} {goal} 9001 {end.nxt} ack 64 0 0{place}"), 0)
        self.assertEqual([read(end, 9) for end in ends], [[0], [1], [2], [3]])

    def test_a_new_end_of_the_same_ports(self):
        host, end = called_host()
        abort(end)
        other = host.calls(1025, 80)
        self.assertEqual(lines(host), ["1025 80 69000 0 syn 64 16", "1025 80 5001 0 rst 0 0"])
        host.arrives(row_of("80 1025 100 69001 syn+ack 64 16"), 0)
        self.assertEqual((state(end), state(other)), ("closed", "open"))

    def test_a_new_end_of_a_port_that_listens_behind_a_closed_one(self):
        host = listening_host()
        come_in(host, 7)
        end = host.taken_end(80)
        host.arrives(row_of("7 80 9001 0 rst 0 0"), 0)
        self.assertEqual(state(end), "closed")
        self.assertEqual(come_in(host, 7), "80 7 69000 9001 syn+ack 64 16")
        other = host.taken_end(80)
        self.assertEqual((state(other), other.first), ("open", 69000))

    def test_the_latest_reset_alone_is_kept(self):
        host = Host(5000)
        host.arrives(row_of("7 80 9000 0 syn 64 16"), 0)
        host.arrives(row_of("8 81 9000 55 ack 64 0"), 0)
        host.arrives(row_of("9 82 9000 55 rst 64 0"), 0)
        self.assertEqual(lines(host), ["81 8 55 0 rst 0 0"])

    def test_the_time_is_handed_on(self):
        host = Host(5000)
        end = host.calls(1025, 80)
        host.sends(100)
        host.arrives(row_of("80 1025 9000 0 syn 64 16"), 900)
        self.assertEqual(lines(host, 900), ["1025 80 5000 9001 syn+ack 64 16"])
        self.assertEqual((lines(host, 1899), lines(host, 1900)), ([], ["1025 80 5000 9001 syn+ack 64 16"]))
        self.assertEqual(state(end), "syn come")

    def test_a_row_is_neither_changed_nor_kept(self):
        host, end = called_host()
        host.listens(80)
        for line in ("7 80 9000 0 syn 64 16", "80 1025 9001 5001 ack 64 0 0102", "7 90 9000 0 syn 64 16"):
            row = row_of(line)
            handed = list(row)
            host.arrives(row, 0)
            self.assertEqual(row, handed)
            before = held_by(host)
            row[:] = [99] * 40
            self.assertEqual(held_by(host), before)


class SendsTest(unittest.TestCase):
    def host_with(self, many, size=64):
        """A host with so many open ends, of the ports 1, 2, 3 .. and 80, that have much to send."""
        host = Host(0)
        ends = [host.calls(place + 1, 80) for place in range(many)]
        lines(host)
        for place in range(many):
            host.arrives(row_of(f"80 {place + 1} 9000 {64000 * place + 1} syn+ack 64 4"), 0)
        self.assertEqual(len(lines(host)), many)
        for end in ends:
            write(end, [7] * size)
        return host, ends

    def sources(self, host, many, now=0):
        return [get(row)[0] if row else None for row in [host.sends(now) for place in range(many)]]

    def test_one_behind_the_other(self):
        host, ends = self.host_with(3)
        self.assertEqual(self.sources(host, 8), [1, 2, 3, 1, 2, 3, 1, 2])

    def test_from_the_first_at_the_beginning(self):
        host = Host(0)
        for port in (9, 3, 5):
            host.calls(port, 80)
        self.assertEqual(self.sources(host, 4), [9, 3, 5, None])

    def test_those_that_have_nothing_are_passed_over(self):
        host, ends = self.host_with(4, 0)
        write(ends[1], [7] * 12)
        write(ends[3], [7] * 8)
        self.assertEqual(self.sources(host, 6), [2, 4, 2, 4, 2, None])
        write(ends[0], [7])
        write(ends[2], [7])
        # The second sent last.
        self.assertEqual(self.sources(host, 3), [3, 1, None])

    def test_a_single_one(self):
        host, ends = self.host_with(1)
        self.assertEqual(self.sources(host, 3), [1, 1, 1])

    def test_the_one_that_sent_last_is_asked_last(self):
        host, ends = self.host_with(3, 0)
        write(ends[1], [7] * 8)
        self.assertEqual(self.sources(host, 1), [2])
        write(ends[2], [7])
        self.assertEqual(self.sources(host, 3), [3, 2, None])

    def test_a_new_end_behind_the_last_one(self):
        host, ends = self.host_with(2)
        self.assertEqual(self.sources(host, 2), [1, 2])
        host.calls(9, 80)
        self.assertEqual(self.sources(host, 4), [9, 1, 2, 1])

    def test_a_new_end_while_another_sent_last(self):
        host, ends = self.host_with(2)
        self.assertEqual(self.sources(host, 1), [1])
        host.calls(9, 80)
        self.assertEqual(self.sources(host, 4), [2, 9, 1, 2])

    def test_a_new_end_of_a_port_that_listens(self):
        host, ends = self.host_with(2)
        host.listens(5)
        self.assertEqual(self.sources(host, 2), [1, 2])
        host.arrives(row_of("7 5 9000 0 syn 64 16"), 0)
        self.assertEqual(self.sources(host, 3), [5, 1, 2])

    def test_an_end_that_is_closed_keeps_its_place(self):
        host, ends = self.host_with(3)
        self.assertEqual(self.sources(host, 2), [1, 2])
        host.arrives(row_of("80 2 9001 0 rst 0 0"), 0)
        self.assertEqual(state(ends[1]), "closed")
        self.assertEqual(self.sources(host, 4), [3, 1, 3, 1])
        abort(ends[2])
        self.assertEqual([next_line(host).split()[4], next_line(host).split()[4]], ["rst", "ack"])
        self.assertEqual(self.sources(host, 2), [1, 1])

    def test_a_new_end_of_the_same_ports_comes_behind_all(self):
        host, ends = self.host_with(3)
        self.assertEqual(self.sources(host, 1), [1])
        abort(ends[0])
        host.calls(1, 80)
        found = lines(host)[:5]
        self.assertEqual([line.split()[0] for line in found], ["2", "3", "1", "1", "2"])
        self.assertEqual([line.split()[4] for line in found], ["ack", "ack", "syn", "rst", "ack"])

    def test_the_hosts_own_reset_goes_first_and_takes_no_turn(self):
        host, ends = self.host_with(2)
        self.assertEqual(self.sources(host, 1), [1])
        host.arrives(row_of("7 90 9000 0 syn 64 16"), 0)
        self.assertEqual(self.sources(host, 4), [90, 2, 1, 2])

    def test_each_is_asked_once(self):
        host, ends = self.host_with(3, 0)
        for end in ends:
            write(end, [7])
        self.assertEqual(self.sources(host, 4), [1, 2, 3, None])
        # With no try left each ends when it is asked.
        for end in ends:
            end.tries = 6
        self.assertEqual(host.sends(1000), [])
        self.assertEqual([(state(end), error(end)) for end in ends], [("closed", "time")] * 3)

    def test_none_is_asked_behind_the_one_that_sends(self):
        host, ends = self.host_with(3, 0)
        for end in ends:
            write(end, [7])
        lines(host)
        ends[0].tries = 6
        ends[2].tries = 6
        self.assertEqual(self.sources(host, 1, 1000), [2])
        self.assertEqual([state(end) for end in ends], ["closed", "open", "open"])
        self.assertEqual(self.sources(host, 1, 1000), [None])
        self.assertEqual([state(end) for end in ends], ["closed", "open", "closed"])

    def test_what_goes_is_the_callers(self):
        host, ends = self.host_with(1)
        host.arrives(row_of("7 90 9000 0 syn 64 16"), 0)
        for attempt in range(3):
            row = host.sends(0)
            before = held_by(host)
            row.append(99)
            self.assertEqual(held_by(host), before)


class TakenTest(unittest.TestCase):
    def test_a_port_that_does_not_listen(self):
        host, end = called_host()
        self.assertRaises(NoPort, host.taken_end, 80)
        self.assertRaises(NoPort, host.taken_end, 1025)
        host.listens(80)
        self.assertIsNone(host.taken_end(80))
        self.assertRaises(NoPort, host.taken_end, 81)

    def test_not_too_early_and_once(self):
        host = listening_host()
        self.assertIsNone(host.taken_end(80))
        host.arrives(row_of("7 80 9000 0 syn 64 16"), 0)
        self.assertIsNone(host.taken_end(80))
        self.assertEqual(lines(host), ["80 7 5000 9001 syn+ack 64 16"])
        self.assertIsNone(host.taken_end(80))
        host.arrives(row_of("7 80 9001 5001 ack 64 0"), 0)
        end = host.taken_end(80)
        self.assertEqual((state(end), end.ours, end.theirs), ("open", 80, 7))
        self.assertIsNone(host.taken_end(80))

    def test_in_every_state_but_three(self):
        for text in ("listen", "syn sent", "syn come", "open", "wait one", "wait two", "close wait", "closing",
                     "last ack", "time wait", "closed"):
            host = listening_host()
            come_in(host, 7)
            host.ends[0].state = text
            end = host.taken_end(80)
            self.assertEqual(end is None, text in ("listen", "syn come", "closed"), text)
            self.assertTrue(end is None or end is host.ends[0])
            # One that could not be taken may be taken later on.
            host.ends[0].state = "open"
            self.assertEqual(host.taken_end(80) is None, end is not None)

    def test_the_one_made_first_is_taken_first(self):
        host = listening_host()
        for source in (9, 7, 8):
            host.arrives(row_of(f"{source} 80 9000 0 syn 64 16"), 0)
        numbers = {line.split()[1]: line.split()[2] for line in lines(host)}
        self.assertEqual(numbers, {"9": "5000", "7": "69000", "8": "133000"})
        host.arrives(row_of("8 80 9001 133001 ack 64 0"), 0)
        host.arrives(row_of("9 80 9001 5001 ack 64 0"), 0)
        self.assertEqual(host.taken_end(80).theirs, 9)
        host.arrives(row_of("7 80 9001 69001 ack 64 0"), 0)
        self.assertEqual([host.taken_end(80).theirs, host.taken_end(80).theirs], [7, 8])
        self.assertIsNone(host.taken_end(80))

    def test_one_that_is_ready_ahead_of_an_older_one(self):
        host = listening_host()
        for source in (9, 7):
            host.arrives(row_of(f"{source} 80 9000 0 syn 64 16"), 0)
        lines(host)
        host.arrives(row_of("7 80 9001 69001 ack 64 0"), 0)
        self.assertEqual(host.taken_end(80).theirs, 7)
        self.assertIsNone(host.taken_end(80))
        host.arrives(row_of("9 80 9001 5001 ack 64 0"), 0)
        self.assertEqual(host.taken_end(80).theirs, 9)

    def test_each_port_has_its_own(self):
        host = listening_host((80, 81))
        come_in(host, 7, 81)
        come_in(host, 7, 80)
        self.assertEqual(host.taken_end(80).ours, 80)
        self.assertIsNone(host.taken_end(80))
        self.assertEqual(host.taken_end(81).ours, 81)
        self.assertIsNone(host.taken_end(81))

    def test_one_that_was_closed_ahead_of_it_is_not_taken(self):
        host = listening_host()
        come_in(host, 7)
        come_in(host, 8)
        host.arrives(row_of("7 80 9001 0 rst 0 0"), 0)
        self.assertEqual(host.taken_end(80).theirs, 8)
        self.assertIsNone(host.taken_end(80))

    def test_none_that_was_called(self):
        host = listening_host((1025,))
        end = host.calls(1025, 80)
        lines(host)
        host.arrives(row_of("80 1025 9000 5001 syn+ack 64 16"), 0)
        self.assertEqual(state(end), "open")
        self.assertIsNone(host.taken_end(1025))

    def test_with_data_and_a_fin_that_came_already(self):
        host = listening_host()
        host.arrives(row_of("7 80 9000 0 syn 64 16"), 0)
        lines(host)
        host.arrives(row_of("7 80 9001 5001 fin+psh+ack 64 0 0a0b"), 0)
        end = host.taken_end(80)
        self.assertEqual((state(end), read(end, 9)), ("close wait", [10, 11]))


class EndOfAHostTest(unittest.TestCase):
    def test_like_any_other(self):
        host, end = called_host(4294967290)
        self.assertEqual(write(end, [7] * 65), 64)
        self.assertEqual(next_line(host), "1025 80 4294967291 9001 ack 64 0 " + "07" * 16)
        self.assertIs(close(end), True)
        self.assertIs(close(end), False)
        self.assertEqual(state(end), "wait one")
        self.assertIs(abort(end), True)
        self.assertEqual(lines(host), ["1025 80 11 0 rst 0 0"])
        self.assertIs(abort(end), False)


class TwoHostsTest(unittest.TestCase):
    """Many streams between two hosts over a bad road, and what is read of them."""

    def move(self, chance, road, to, now):
        if len(road) > 0:
            row = road.pop(chance.randrange(len(road)))
            self.assertIs(to.arrives(row, now), True)

    def test_many_streams(self):
        for seed in range(12):
            chance = random.Random(seed)
            caller, answerer = Host(4294967290), Host(4294967296 - 70000)
            answerer.listens(80)
            calling = [caller.calls(1000 + place, 80) for place in range(4)]
            sent = [[chance.randrange(256) for place in range(200)] for end in calling]
            left = copy.deepcopy(sent)
            answering, got = {}, {}
            there, back = [], []
            now = 0
            for step in range(9000):
                kind = step > 6000
                for host, road in ((caller, there), (answerer, back)):
                    row = host.sends(now)
                    if row != [] and (kind or chance.randrange(100) >= 20):
                        road.append(row)
                self.move(chance, there, answerer, now)
                self.move(chance, back, caller, now)
                for place, end in enumerate(calling):
                    left[place] = left[place][write(end, left[place]):]
                    if left[place] == []:
                        close(end) if state(end) == "open" else None
                taken = answerer.taken_end(80)
                if taken is not None:
                    answering[taken.theirs] = taken
                    got[taken.theirs] = []
                for source, end in answering.items():
                    got[source] += read(end, chance.randrange(20))
                    if state(end) == "close wait":
                        close(end)
                now += chance.choice((0, 20, 100))
            self.assertEqual([got[1000 + place] for place in range(4)], sent)
            ends = calling + list(answering.values())
            self.assertEqual([(state(end), error(end)) for end in ends], [("closed", "")] * 8)


if __name__ == "__main__":
    unittest.main()
