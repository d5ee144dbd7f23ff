"""Promises [1.1], [1.2] and [1.3]: segments, their bytes, and which bytes are right."""

import struct
import unittest

from wirestream.errors import NoSegment, WireError
from wirestream.segments import get, is_right, length, put

FIN, SYN, RST, PSH, ACK = 1, 2, 4, 8, 16
LAST = 4294967295
SIXTEEN = tuple(range(240, 256))

# Segments with their very bytes, the sums worked out by hand.
KNOWN = (
    (
        (1, 2, 3, 4, 0, 5, 0, ()),
        [0, 1, 0, 2, 0, 0, 0, 3, 0, 0, 0, 4, 80, 0, 0, 5, 0xAF, 0xF0, 0, 0],
    ),
    (
        (0, 0, 0, 0, 0, 0, 0, ()),
        [0] * 12 + [80, 0, 0, 0, 0xAF, 0xFF, 0, 0],
    ),
    (
        (0x1234, 0x5678, 0x01020304, 0x05060708, ACK, 64, 0, (9,)),
        [0x12, 0x34, 0x56, 0x78, 1, 2, 3, 4, 5, 6, 7, 8, 80, 16, 0, 64, 0x2D, 0xEF, 0, 0, 9],
    ),
    (
        (7, 8, 9, 0, SYN, 64, 4, ()),
        [0, 7, 0, 8, 0, 0, 0, 9, 0, 0, 0, 0, 96, 2, 0, 64, 0x9D, 0x9D, 0, 0, 2, 4, 0, 4],
    ),
    (
        (65535, 0, LAST, 0, 31, 65535, 65535, (255,)),
        [255, 255, 0, 0, 255, 255, 255, 255, 0, 0, 0, 0, 96, 31, 255, 255, 0x9E, 0xDB, 0, 0, 2, 4, 255, 255, 255],
    ),
    (
        (0, 65535, 0, LAST, PSH + ACK, 0, 0, (1, 0) * 8),
        [0, 0, 255, 255, 0, 0, 0, 0, 255, 255, 255, 255, 80, 24, 0, 0, 0xA7, 0xE7, 0, 0] + [1, 0] * 8,
    ),
)


def segments():
    found = [segment for segment, row in KNOWN]
    for flags in range(32):
        for data in ((), (0,), (255,), (1, 2, 3), SIXTEEN[1:], SIXTEEN, (0,) * 16):
            found.append((1025, 80, 4294967290, 77, flags, 64, 0, data))
            if flags & SYN:
                found.append((1025, 80, 4294967290, 77, flags, 64, 16, data))
    for port in (0, 1, 255, 256, 65535):
        found.append((port, 65535 - port, 1, 2, ACK, 3, 0, (4,)))
    for number in (0, 1, 255, 256, 65535, 65536, 16777215, 16777216, 2147483648, LAST):
        found.append((1, 2, number, LAST - number, ACK, 64, 0, ()))
    for window in (0, 1, 255, 256, 65535):
        found.append((1, 2, 3, 4, ACK, window, 0, (5, 6)))
    for most in (4, 5, 16, 255, 256, 65535):
        found.append((1, 2, 3, 0, SYN, 64, most, ()))
    return found


def sum_by_remainder(row):
    words = struct.unpack(f">{(len(row) + 1) // 2}H", bytes(row + [0] * (len(row) % 2)))
    total = sum(words)
    return 65535 - (0 if total == 0 else (total - 1) % 65535 + 1)


def packed(segment):
    source, goal, number, answer, flags, window, most, data = segment
    choice = struct.pack(">BBH", 2, 4, most) if most else b""
    words = 6 if most else 5
    front = struct.pack(">HHIIBBH", source, goal, number, answer, 16 * words, flags, window)
    back = b"\0\0" + choice + bytes(data)
    summed = sum_by_remainder(list(front + b"\0\0" + back))
    return list(front + struct.pack(">H", summed) + back)


def summed_right(row):
    """The row with the sum in its place set right for it."""
    bare = row[:16] + [0, 0] + row[18:]
    found = sum_by_remainder(bare)
    return row[:16] + [found // 256, found % 256] + row[18:]


def changed(row, place, byte):
    return summed_right(row[:place] + [byte] + row[place + 1:])


SHORT = packed((1, 2, 3, 4, ACK, 5, 0, (6, 7)))
LONG = packed((1, 2, 3, 4, SYN + ACK, 5, 16, (6, 7)))


class LengthTest(unittest.TestCase):
    def test_data_alone(self):
        for many in range(17):
            for flags in (0, RST, PSH, ACK, RST + PSH + ACK):
                self.assertEqual(length((1, 2, 3, 4, flags, 5, 0, (9,) * many)), many)

    def test_one_for_syn_and_one_for_fin(self):
        for rest in (0, RST, PSH, ACK, RST + PSH + ACK):
            for data in ((), (9,), SIXTEEN):
                self.assertEqual(length((1, 2, 3, 4, rest + SYN, 5, 0, data)), len(data) + 1)
                self.assertEqual(length((1, 2, 3, 4, rest + FIN, 5, 0, data)), len(data) + 1)
                self.assertEqual(length((1, 2, 3, 4, rest + SYN + FIN, 5, 0, data)), len(data) + 2)

    def test_a_greatest_length_counts_for_nothing(self):
        self.assertEqual(length((1, 2, 3, 4, SYN, 5, 1000, ())), 1)


class PutTest(unittest.TestCase):
    def test_the_very_bytes(self):
        for segment, row in KNOWN:
            self.assertEqual(put(segment), row)

    def test_the_bytes_of_many_segments(self):
        for segment in segments():
            self.assertEqual(put(segment), packed(segment), segment)

    def test_it_is_a_list_of_whole_numbers_made_anew(self):
        segment = (1, 2, 3, 4, SYN, 5, 6, (7,))
        first = put(segment)
        self.assertIs(type(first), list)
        self.assertEqual({type(byte) for byte in first}, {int})
        first[0] = 99
        self.assertEqual(put(segment), packed(segment))

    def test_what_lies_somewhat_beyond_the_bounds_is_not_refused(self):
        for segment in (
            (1, 2, 3, 4, ACK, 5, 0, (6,) * 17),
            (1, 2, 3, 4, SYN, 5, 3, ()),
            (1, 2, 3, 4, ACK, 5, 16, ()),
            (1, 2, 3, 4, 32, 5, 0, ()),
        ):
            row = put(segment)
            self.assertEqual(row, packed(segment))
            self.assertIs(is_right(row), False)


class GetTest(unittest.TestCase):
    def test_the_very_segments(self):
        for segment, row in KNOWN:
            self.assertEqual(get(row), segment)

    def test_what_was_put_comes_back(self):
        for segment in segments():
            row = put(segment)
            self.assertIs(is_right(row), True)
            self.assertEqual(get(row), segment)

    def test_it_is_a_tuple_with_its_data_as_a_tuple(self):
        for row in (SHORT, LONG):
            segment = get(row)
            self.assertIs(type(segment), tuple)
            self.assertEqual([type(part) for part in segment], [int] * 7 + [tuple])

    def test_the_row_is_not_kept(self):
        row = list(SHORT)
        segment = get(row)
        row[20] = 99
        self.assertEqual(segment, (1, 2, 3, 4, ACK, 5, 0, (6, 7)))


class RightTest(unittest.TestCase):
    def refuse(self, row):
        self.assertIs(is_right(row), False, row)
        with self.assertRaises(NoSegment) as caught:
            get(row)
        self.assertIsInstance(caught.exception, WireError)
        self.assertIsInstance(caught.exception, ValueError)

    def take(self, row):
        self.assertIs(is_right(row), True, row)
        self.assertEqual(get(row)[7], tuple(row[4 * (row[12] // 16):]))

    def test_the_rows_that_are_changed_below_are_right(self):
        self.take(SHORT)
        self.take(LONG)

    def test_nineteen_bytes_and_fewer(self):
        right = packed((1, 2, 3, 4, ACK, 5, 0, ()))
        self.take(right)
        for size in (18, 19):
            self.refuse(summed_right(right[:size]))
        for size in range(2, 18):
            found = sum_by_remainder([0, 0] + right[2:size])
            self.refuse([found // 256, found % 256] + right[2:size])
        self.refuse([255])
        self.refuse([])
        for size in range(20):
            self.refuse(right[:size])
            self.refuse([255] * size)

    def test_a_thirteenth_byte_other_than_80_and_96(self):
        for head in range(256):
            if head not in (80, 96):
                self.refuse(changed(SHORT, 12, head))
                self.refuse(changed(LONG, 12, head))
                for size in (20, 24, 28, 32, 36, 40):
                    self.refuse(changed((LONG + [0] * 16)[:size], 12, head))

    def test_flags_above_31(self):
        for flags in range(32):
            self.take(changed(SHORT, 13, flags))
        for flags in range(32, 256):
            self.refuse(changed(SHORT, 13, flags))
            self.refuse(changed(LONG, 13, flags))

    def test_shorter_than_a_head_of_six_words(self):
        bare = packed((1, 2, 3, 4, SYN, 5, 4, ()))
        self.take(bare)
        for size in (20, 21, 22, 23):
            self.refuse(summed_right(bare[:size]))

    def test_more_than_sixteen_data_bytes(self):
        for right in (SHORT[:20], LONG[:24]):
            for many in range(17):
                self.take(summed_right(right + [3] * many))
            for many in (17, 18, 19, 20, 21, 32, 1000):
                self.refuse(summed_right(right + [3] * many))
                self.refuse(summed_right(right + [0] * many))

    def test_noughts_that_are_none(self):
        for right in (SHORT, LONG):
            for byte in (1, 2, 128, 255):
                self.refuse(changed(right, 18, byte))
                self.refuse(changed(right, 19, byte))
            self.refuse(summed_right(right[:18] + [255, 255] + right[20:]))

    def test_a_head_of_six_words_asks_for_syn(self):
        for flags in range(32):
            row = changed(LONG, 13, flags)
            if flags & SYN:
                self.take(row)
            else:
                self.refuse(row)

    def test_other_bytes_than_2_and_4_there(self):
        for byte in range(256):
            if byte != 2:
                self.refuse(changed(LONG, 20, byte))
            if byte != 4:
                self.refuse(changed(LONG, 21, byte))
        self.refuse(summed_right(LONG[:20] + [4, 2] + LONG[22:]))

    def test_the_least_greatest_length(self):
        for most in (0, 1, 2, 3):
            self.refuse(summed_right(LONG[:22] + [0, most] + LONG[24:]))
        for most in (4, 5, 255, 256, 257, 512, 65535):
            row = summed_right(LONG[:22] + [most // 256, most % 256] + LONG[24:])
            self.take(row)
            self.assertEqual(get(row)[6], most)

    def test_every_other_sum_is_wrong(self):
        for right in (SHORT, LONG, SHORT[:20] + [7]):
            right = summed_right(right)
            for high in range(256):
                for low in (0, 1, right[17], 254, 255):
                    row = right[:16] + [high, low] + right[18:]
                    self.assertIs(is_right(row), row == right)
        self.refuse(SHORT[:16] + [0, 0] + SHORT[18:])
        self.refuse(SHORT[:16] + [SHORT[17], SHORT[16]] + SHORT[18:])
        self.refuse(SHORT[:17] + [SHORT[17] ^ 1] + SHORT[18:])

    def test_every_single_bit_that_is_turned_is_seen(self):
        for right in (SHORT, LONG, packed((1, 2, 3, 4, FIN + ACK, 5, 0, (6,)))):
            for place in range(len(right)):
                for bit in range(8):
                    self.refuse(right[:place] + [right[place] ^ (1 << bit)] + right[place + 1:])

    def test_a_sum_of_65535_stands_where_one_of_nought_does(self):
        # Both fold to 65535, which is all that [1.3] asks of the sum.
        window = 65535 - 0x5010
        segment = (0, 0, 0, 0, ACK, window, 0, ())
        row = put(segment)
        self.assertEqual(row[16:18], [0, 0])
        self.take(row)
        twin = row[:16] + [255, 255] + row[18:]
        self.take(twin)
        self.assertEqual(get(twin), segment)

    def test_a_row_of_noughts_alone_is_none(self):
        for size in (20, 24, 36, 40):
            self.refuse([0] * size)


class HandedInTest(unittest.TestCase):
    def test_segments_stay_as_they_were(self):
        for segment in segments():
            before = tuple(segment[:7]) + (tuple(segment[7]),)
            length(segment)
            put(segment)
            self.assertEqual(segment, before)

    def test_rows_stay_as_they_were(self):
        for right in (SHORT, LONG, [], [0] * 20, SHORT[:19], LONG + [1] * 20, changed(LONG, 13, ACK)):
            row = list(right)
            answer = is_right(row)
            self.assertEqual(row, right)
            try:
                get(row)
                self.assertIs(answer, True)
            except NoSegment:
                self.assertIs(answer, False)
            self.assertEqual(row, right)


if __name__ == "__main__":
    unittest.main()
