"""Promises [0.2] and [0.3]: two ends together, over roads that lose, double, delay and mix up segments.

Chance has a fixed seed in each test, so that every run is the same."""

import itertools
import random
import unittest

from wirestream.arriving import arrive
from wirestream.calls import close, opened, read, write
from wirestream.ends import error, state
from wirestream.notes import shown
from wirestream.segments import get
from wirestream.sending import send

STATES = ("closed", "listen", "syn sent", "syn come", "open", "wait one", "wait two", "close wait", "closing",
          "last ack", "time wait")
PORTS = (1025, 80)
FIRSTS = ((5000, 9000), (4294967295, 0), (4294967290, 4294967270), (2147483640, 2147483630), (0, 4294967295),
          (4294967200, 2147483600), (4294967296 - 64, 4294967296 - 65))
ROUNDS = 1200


class Pair:
    def __init__(self, case, seed, both, firsts):
        self.case = case
        self.chance = random.Random(seed)
        self.ends = (opened(1025, 80, firsts[0], True), opened(80, 1025, firsts[1], both))
        # Rows that the one and the other have sent and that are on the road.
        self.roads = ([], [])
        self.took = ([], [])
        self.got = ([], [])
        self.closed = [False, False]
        self.now = 0
        self.lost = self.chance.choice((0, 10, 30))
        self.doubled = self.chance.choice((0, 10, 30))
        self.mixed = self.chance.choice((0, 30, 100))

    def happens(self, percent):
        return self.chance.randrange(100) < percent

    def write(self, side, many):
        row = [self.chance.randrange(256) for place in range(many)]
        self.took[side].extend(row[:write(self.ends[side], row)])

    def read(self, side, many):
        self.got[side].extend(read(self.ends[side], many))
        self.case.assertEqual(self.got[side], self.took[1 - side][:len(self.got[side])])

    def close(self, side):
        # A stream that was closed ahead of its opening takes nothing with it, so that is left out.
        if state(self.ends[side]) not in ("listen", "syn sent") and close(self.ends[side]):
            self.closed[side] = True

    def send(self, side):
        row = send(self.ends[side], self.now)
        if len(row) > 0:
            segment = get(row)
            self.case.assertEqual((segment[0], segment[1]), (PORTS[side], PORTS[1 - side]))
        return row

    def send_over_a_bad_road(self, side):
        row = self.send(side)
        if len(row) > 0 and not self.happens(self.lost):
            self.roads[side].append(row)
            if self.happens(self.doubled):
                self.roads[side].append(row)

    def deliver(self, side):
        road = self.roads[side]
        if len(road) > 0:
            row = road.pop(self.chance.randrange(len(road)) if self.happens(self.mixed) else 0)
            if self.happens(self.doubled):
                road.append(row)
            self.case.assertIs(arrive(self.ends[1 - side], row, self.now), True)

    def do_something(self, may_close=True):
        side = self.chance.randrange(2)
        wish = self.chance.randrange(16)
        if wish < 2:
            self.write(side, self.chance.randrange(50))
        elif wish == 2:
            self.read(side, self.chance.choice((0, 1, 3, 10, 64, 100)))
        elif wish == 3 and may_close and self.happens(10):
            self.close(side)
        elif wish < 8:
            self.send_over_a_bad_road(side)
        elif wish < 13:
            self.deliver(side)
        else:
            self.now += self.chance.choice((0, 1, 10, 100, 500, 1000))
        for end in self.ends:
            self.case.assertIn(state(end), STATES)

    def exchange(self):
        """Every segment arrives, in the order in which they went."""
        for side in (0, 1):
            asked = 0
            row = self.send(side)
            while len(row) > 0:
                self.roads[side].append(row)
                asked += 1
                self.case.assertLess(asked, 200)
                row = self.send(side)
            rows = list(self.roads[side])
            self.roads[side].clear()
            for row in rows:
                self.case.assertIs(arrive(self.ends[1 - side], row, self.now), True)

    def errors(self):
        return [error(end) for end in self.ends]

    def states(self):
        return [state(end) for end in self.ends]

    def is_all_read(self):
        return list(self.got) == [self.took[1], self.took[0]]

    def is_over(self):
        return self.is_all_read() and (self.closed != [True, True] or self.states() == ["closed", "closed"])

    def go_a_kind_road(self, wants_close):
        for rounds in range(ROUNDS):
            self.exchange()
            for side in (0, 1):
                self.read(side, self.chance.choice((1, 10, 64)))
                if wants_close[side] and not self.closed[side]:
                    self.close(side)
            if rounds > 9 and self.is_over():
                break
            self.now += 500
        self.case.assertTrue(self.is_over(), (self.states(), self.closed))
        self.case.assertEqual(self.errors(), ["", ""])


class OpeningTest(unittest.TestCase):
    def lines(self, pair, steps):
        """What goes when the ends are asked in this order, each segment arriving at once."""
        found = []
        for side in steps:
            row = pair.send(side)
            found.append("" if row == [] else shown(get(row)))
            if row != []:
                arrive(pair.ends[1 - side], row, 0)
        return found

    def test_from_one_side(self):
        pair = Pair(self, 0, False, (5000, 4294967295))
        self.assertEqual(self.lines(pair, (1, 0, 1, 0, 1, 0)), [
            "", "1025 80 5000 0 syn 64 16", "80 1025 4294967295 5001 syn+ack 64 16", "1025 80 5001 0 ack 64 0", "", ""])
        self.assertEqual(pair.states(), ["open", "open"])

    def test_from_both_at_once(self):
        pair = Pair(self, 0, True, (5000, 4294967295))
        rows = [pair.send(0), pair.send(1)]
        self.assertEqual([shown(get(row)) for row in rows], ["1025 80 5000 0 syn 64 16", "80 1025 4294967295 0 syn 64 16"])
        arrive(pair.ends[1], rows[0], 0)
        arrive(pair.ends[0], rows[1], 0)
        self.assertEqual(pair.states(), ["syn come", "syn come"])
        rows = [pair.send(0), pair.send(1)]
        self.assertEqual([shown(get(row)) for row in rows], [
            "1025 80 5000 0 syn+ack 64 16", "80 1025 4294967295 5001 syn+ack 64 16"])
        arrive(pair.ends[1], rows[0], 0)
        arrive(pair.ends[0], rows[1], 0)
        self.assertEqual(pair.states(), ["syn come", "syn come"])
        rows = [pair.send(0), pair.send(1)]
        self.assertEqual([shown(get(row)) for row in rows], ["1025 80 5001 0 ack 64 0", "80 1025 0 5001 ack 64 0"])
        arrive(pair.ends[1], rows[0], 0)
        arrive(pair.ends[0], rows[1], 0)
        self.assertEqual(pair.states(), ["open", "open"])
        self.assertEqual(self.lines(pair, (0, 1)), ["", ""])

    def test_both_want_to_and_one_is_ahead(self):
        pair = Pair(self, 0, True, (5000, 9000))
        self.assertEqual(self.lines(pair, (0, 1, 0, 1, 0)), [
            "1025 80 5000 0 syn 64 16", "80 1025 9000 5001 syn+ack 64 16", "1025 80 5001 9001 ack 64 0", "", ""])
        self.assertEqual(pair.states(), ["open", "open"])


class ClosingTest(unittest.TestCase):
    def opened_pair(self, firsts):
        pair = Pair(self, 0, False, firsts)
        for rounds in range(3):
            pair.exchange()
        self.assertEqual(pair.states(), ["open", "open"])
        return pair

    def test_one_behind_the_other(self):
        for firsts in FIRSTS:
            pair = self.opened_pair(firsts)
            seen = [pair.states()]
            pair.close(0)
            pair.exchange()
            seen.append(pair.states())
            pair.close(1)
            pair.exchange()
            pair.exchange()
            seen.append(pair.states())
            pair.now = 119999
            pair.exchange()
            seen.append(pair.states())
            pair.now = 120000
            pair.exchange()
            seen.append(pair.states())
            self.assertEqual(seen, [["open", "open"], ["wait two", "close wait"], ["time wait", "closed"],
                                    ["time wait", "closed"], ["closed", "closed"]])
            self.assertEqual(pair.errors(), ["", ""])

    def test_both_at_once(self):
        for firsts in FIRSTS:
            pair = self.opened_pair(firsts)
            pair.close(0)
            pair.close(1)
            rows = [pair.send(0), pair.send(1)]
            arrive(pair.ends[1], rows[0], 0)
            arrive(pair.ends[0], rows[1], 0)
            self.assertEqual(pair.states(), ["closing", "closing"])
            pair.exchange()
            self.assertEqual(pair.states(), ["time wait", "time wait"])
            pair.now = 120000
            pair.exchange()
            self.assertEqual((pair.states(), pair.errors()), (["closed", "closed"], ["", ""]))

    def test_the_last_acknowledgement_is_lost(self):
        for firsts in FIRSTS:
            pair = self.opened_pair(firsts)
            pair.close(0)
            pair.exchange()
            pair.close(1)
            row = pair.send(1)
            arrive(pair.ends[0], row, pair.now)
            self.assertEqual(pair.states(), ["time wait", "last ack"])
            self.assertEqual(len(pair.send(0)), 20)
            pair.now = 1000
            pair.exchange()
            pair.exchange()
            self.assertEqual(pair.states(), ["time wait", "closed"])
            pair.now = 120999
            pair.exchange()
            self.assertEqual(pair.states(), ["time wait", "closed"])
            pair.now = 121000
            pair.exchange()
            self.assertEqual((pair.states(), pair.errors()), (["closed", "closed"], ["", ""]))

    def test_wishes_in_every_order(self):
        wishes = ("write 0", "write 1", "read 0", "read 1", "close 0", "close 1")
        for place, order in enumerate(itertools.permutations(wishes)):
            pair = Pair(self, place, place % 2 == 1, FIRSTS[place % len(FIRSTS)])
            # Half of them begin before the opening is over.
            for rounds in range(place // 2 % 2 * 3):
                pair.exchange()
            for wish in order:
                self.do(pair, wish)
                if pair.happens(50):
                    pair.exchange()
            pair.go_a_kind_road((True, True))
            self.assertEqual(pair.states(), ["closed", "closed"])

    def do(self, pair, wish):
        verb, side = wish.split()
        if verb == "write":
            pair.write(int(side), pair.chance.randrange(80))
        elif verb == "read":
            pair.read(int(side), 20)
        else:
            pair.close(int(side))


class RoadTest(unittest.TestCase):
    def test_a_bad_road_and_then_a_kind_one(self):
        ended_by_time = 0
        for seed in range(500):
            pair = Pair(self, seed, seed % 3 == 0, FIRSTS[seed % len(FIRSTS)])
            for step in range(pair.chance.randrange(600)):
                pair.do_something()
            if pair.errors() != ["", ""]:
                ended_by_time += 1
            else:
                pair.go_a_kind_road(((True, True), (True, True), (True, False), (False, False))[seed % 4])
        self.assertLess(ended_by_time, 10)

    def test_much_in_both_ways(self):
        for seed, firsts in enumerate(FIRSTS):
            pair = Pair(self, seed, seed % 2 == 0, firsts)
            for step in range(12000):
                pair.do_something(False)
            self.assertGreater(min(len(pair.got[0]), len(pair.got[1])), 500)
            self.assertEqual(pair.errors(), ["", ""])
            pair.go_a_kind_road((True, True))
            self.assertEqual(pair.states(), ["closed", "closed"])

    def test_a_reader_that_is_slow(self):
        for seed, firsts in enumerate(FIRSTS):
            pair = Pair(self, seed, False, firsts)
            for rounds in range(3):
                pair.exchange()
            for rounds in range(400):
                pair.write(0, 64)
                pair.exchange()
                pair.now += 300
                if rounds % 40 == 39:
                    pair.read(1, 1 + rounds % 7)
            self.assertEqual(pair.states(), ["open", "open"])
            pair.go_a_kind_road((True, True))
            self.assertEqual(pair.states(), ["closed", "closed"])

    def test_nothing_arrives(self):
        for seed, firsts in enumerate(FIRSTS):
            pair = Pair(self, seed, True, firsts)
            for rounds in range(200):
                pair.send(0)
                pair.send(1)
                pair.now += 500
            self.assertEqual((pair.states(), pair.errors()), (["closed", "closed"], ["time", "time"]))


if __name__ == "__main__":
    unittest.main()
