"""Promise [1.4], with [1.1]: a segment's line, and which lines write a segment."""

import unittest

from wirestream.errors import NoSegment, WireError
from wirestream.notes import read, shown

FIN, SYN, RST, PSH, ACK = 1, 2, 4, 8, 16
LAST = 4294967295
SIXTEEN = (0, 15, 16, 255, 1, 2, 3, 4, 5, 6, 7, 8, 9, 160, 171, 254)
SIXTEEN_SHOWN = "000f10ff010203040506070809a0abfe"

KNOWN = (
    ((1, 2, 3, 4, 0, 5, 0, ()), "1 2 3 4 none 5 0"),
    ((1, 2, 3, 4, FIN, 5, 0, ()), "1 2 3 4 fin 5 0"),
    ((1, 2, 3, 4, SYN, 5, 0, ()), "1 2 3 4 syn 5 0"),
    ((1, 2, 3, 4, RST, 5, 0, ()), "1 2 3 4 rst 5 0"),
    ((1, 2, 3, 4, PSH, 5, 0, ()), "1 2 3 4 psh 5 0"),
    ((1, 2, 3, 4, ACK, 5, 0, ()), "1 2 3 4 ack 5 0"),
    ((1, 2, 3, 4, 31, 5, 0, ()), "1 2 3 4 fin+syn+rst+psh+ack 5 0"),
    ((1, 2, 3, 4, SYN + ACK, 5, 0, ()), "1 2 3 4 syn+ack 5 0"),
    ((1, 2, 3, 4, FIN + ACK, 5, 0, ()), "1 2 3 4 fin+ack 5 0"),
    ((1, 2, 3, 4, PSH + ACK, 5, 0, ()), "1 2 3 4 psh+ack 5 0"),
    ((1, 2, 3, 4, RST + ACK, 5, 0, ()), "1 2 3 4 rst+ack 5 0"),
    ((1, 2, 3, 4, SYN, 5, 4, ()), "1 2 3 4 syn 5 4"),
    ((1, 2, 3, 4, SYN, 5, 16, ()), "1 2 3 4 syn 5 16"),
    ((1, 2, 3, 4, SYN + ACK, 5, 65535, ()), "1 2 3 4 syn+ack 5 65535"),
    ((1, 2, 3, 4, 31, 5, 1000, (9,)), "1 2 3 4 fin+syn+rst+psh+ack 5 1000 09"),
    ((1, 2, 3, 4, ACK, 5, 0, (0,)), "1 2 3 4 ack 5 0 00"),
    ((1, 2, 3, 4, ACK, 5, 0, (15,)), "1 2 3 4 ack 5 0 0f"),
    ((1, 2, 3, 4, ACK, 5, 0, (16,)), "1 2 3 4 ack 5 0 10"),
    ((1, 2, 3, 4, ACK, 5, 0, (255,)), "1 2 3 4 ack 5 0 ff"),
    ((1, 2, 3, 4, 0, 5, 0, (104, 105)), "1 2 3 4 none 5 0 6869"),
    ((1, 2, 3, 4, ACK, 5, 0, SIXTEEN), "1 2 3 4 ack 5 0 " + SIXTEEN_SHOWN),
    ((1, 2, 3, 4, SYN, 5, 4, SIXTEEN), "1 2 3 4 syn 5 4 " + SIXTEEN_SHOWN),
    ((0, 0, 0, 0, 0, 0, 0, ()), "0 0 0 0 none 0 0"),
    ((65535, 0, LAST, 0, ACK, 65535, 0, ()), "65535 0 4294967295 0 ack 65535 0"),
    ((0, 65535, 0, LAST, ACK, 0, 0, ()), "0 65535 0 4294967295 ack 0 0"),
    ((65535, 65535, LAST, LAST, 31, 65535, 65535, (255,) * 16),
     "65535 65535 4294967295 4294967295 fin+syn+rst+psh+ack 65535 65535 " + "ff" * 16),
)

FLAG_TEXTS = (
    "none", "fin", "syn", "fin+syn", "rst", "fin+rst", "syn+rst", "fin+syn+rst",
    "psh", "fin+psh", "syn+psh", "fin+syn+psh", "rst+psh", "fin+rst+psh", "syn+rst+psh", "fin+syn+rst+psh",
    "ack", "fin+ack", "syn+ack", "fin+syn+ack", "rst+ack", "fin+rst+ack", "syn+rst+ack", "fin+syn+rst+ack",
    "psh+ack", "fin+psh+ack", "syn+psh+ack", "fin+syn+psh+ack", "rst+psh+ack", "fin+rst+psh+ack",
    "syn+rst+psh+ack", "fin+syn+rst+psh+ack",
)

SIGNS = [chr(code) for code in range(32, 127)]


def keeps_the_bounds(segment):
    source, goal, number, answer, flags, window, most, data = segment
    return (
        all(0 <= part <= 65535 for part in (source, goal, window, most))
        and all(0 <= part <= LAST for part in (number, answer))
        and 0 <= flags <= 31
        and (most == 0 or (most >= 4 and flags & SYN != 0))
        and len(data) <= 16
        and all(0 <= byte <= 255 for byte in data)
    )


class ShownTest(unittest.TestCase):
    def test_the_very_lines(self):
        for segment, line in KNOWN:
            self.assertEqual(shown(segment), line)

    def test_all_flags(self):
        for flags, text in enumerate(FLAG_TEXTS):
            self.assertEqual(shown((1, 2, 3, 4, flags, 5, 0, ())), f"1 2 3 4 {text} 5 0")

    def test_every_byte(self):
        for byte in range(256):
            self.assertEqual(shown((1, 2, 3, 4, ACK, 5, 0, (byte,))), f"1 2 3 4 ack 5 0 {byte:02x}")

    def test_what_lies_somewhat_beyond_the_bounds_is_not_refused(self):
        self.assertEqual(shown((65536, 65537, LAST + 1, LAST + 2, ACK, 65538, 3, (9,) * 17)),
                         "65536 65537 4294967296 4294967297 ack 65538 3 " + "09" * 17)
        self.assertIsInstance(shown((1, 2, 3, 4, 32, 5, 0, (256, -1))), str)


class ReadTest(unittest.TestCase):
    def test_the_very_segments(self):
        for segment, line in KNOWN:
            self.assertEqual(read(line), segment)

    def test_all_flags(self):
        for flags, text in enumerate(FLAG_TEXTS):
            self.assertEqual(read(f"1 2 3 4 {text} 5 0"), (1, 2, 3, 4, flags, 5, 0, ()))

    def test_every_byte_and_every_length(self):
        for byte in range(256):
            self.assertEqual(read(f"1 2 3 4 ack 5 0 {byte:02x}")[7], (byte,))
        for many in range(1, 17):
            data = tuple(range(17, 17 + many))
            self.assertEqual(read("1 2 3 4 ack 5 0 " + bytes(data).hex())[7], data)

    def test_it_is_a_tuple_with_its_data_as_a_tuple(self):
        for line in ("1 2 3 4 ack 5 0", "1 2 3 4 syn 5 4 0a0b"):
            segment = read(line)
            self.assertIs(type(segment), tuple)
            self.assertEqual([type(part) for part in segment], [int] * 7 + [tuple])


class RefusedLinesTest(unittest.TestCase):
    def refuse(self, line):
        with self.assertRaises(NoSegment, msg=repr(line)) as caught:
            read(line)
        self.assertIsInstance(caught.exception, WireError)
        self.assertIsInstance(caught.exception, ValueError)

    def test_no_words(self):
        for line in ("", " ", "  ", " " * 6, " " * 7, " " * 8):
            self.refuse(line)

    def test_blanks_ahead_behind_and_twice(self):
        for line in ("1 2 3 4 ack 5 0", "1 2 3 4 ack 5 0 ff", "1 2 3 4 syn 5 4 " + SIXTEEN_SHOWN):
            read(line)
            self.refuse(" " + line)
            self.refuse(line + " ")
            self.refuse(" " + line + " ")
            for place, sign in enumerate(line):
                if sign == " ":
                    self.refuse(line[:place] + " " + line[place:])

    def test_words_more_and_less(self):
        words = "1 2 3 4 ack 5 0 ff".split(" ")
        for place in range(7):
            self.refuse(" ".join(words[:7][:place] + words[:7][place + 1:]))
            self.refuse(" ".join(words[:place] + words[place + 1:]))
            self.refuse(" ".join(words[:7][:place]))
        self.refuse("1 2 3 4 ack 5 0 ff ff")
        self.refuse("1 2 3 4 ack 5 0 ff 0")
        self.refuse("0 1 2 3 4 ack 5 0")
        self.refuse("1")
        self.refuse("ack")

    def test_numbers_in_another_form(self):
        words = "1 2 3 4 syn 5 16".split(" ")
        wrong = ("", "00", "01", "007", "+1", "-1", "-0", "+0", "1+", "1-", "1_0", "_1", "1_", "1.0", "1e1", "0x1",
                 "a", "1a", "a1", "1,0", "none", "~", "!", "1" * 11, "0" * 11, "9" * 5000, "0" * 5000 + "1")
        for place in (0, 1, 2, 3, 5, 6):
            for word in wrong:
                self.refuse(" ".join(words[:place] + [word] + words[place + 1:]))

    def test_every_sign_within_a_number(self):
        words = "12 12 12 12 syn 12 12".split(" ")
        for place in (0, 1, 2, 3, 5, 6):
            for sign in SIGNS:
                if sign not in "0123456789":
                    for word in (sign + "12", "1" + sign + "2", "12" + sign):
                        self.refuse(" ".join(words[:place] + [word] + words[place + 1:]))

    def test_numbers_one_above_their_bounds(self):
        words = "1 2 3 4 syn 5 16".split(" ")
        for place, greatest in ((0, 65535), (1, 65535), (2, LAST), (3, LAST), (5, 65535), (6, 65535)):
            right = " ".join(words[:place] + [str(greatest)] + words[place + 1:])
            self.assertEqual(read(right)[place], greatest)
            for number in (greatest + 1, greatest + 2, 10 * greatest, 10**100 - 1):
                self.refuse(" ".join(words[:place] + [str(number)] + words[place + 1:]))

    def test_flags_in_another_form(self):
        for flags in ("ack+syn", "syn+fin", "ack+psh+rst+syn+fin", "fin+ack+syn", "psh+rst",
                      "syn+syn", "ack+ack", "fin+syn+syn+ack", "fin+fin+syn",
                      "urg", "syn+urg", "urg+ack", "sy", "synack", "acks", "x",
                      "+", "+syn", "syn+", "++", "syn++ack", "+syn+ack", "syn+ack+", "++syn",
                      "none+syn", "syn+none", "none+none", "none+", "+none", "non", "nones",
                      "SYN", "Syn", "syN", "SYN+ACK", "syn+ACK", "NONE", "None",
                      "syn,ack", "syn-ack", "syn|ack", "0", "2", "31", ""):
            self.refuse(f"1 2 3 4 {flags} 5 0")

    def test_a_greatest_length_from_1_to_3(self):
        for flags in ("syn", "syn+ack", "fin+syn+rst+psh+ack"):
            for most in (1, 2, 3):
                self.refuse(f"1 2 3 4 {flags} 5 {most}")
            for most in (0, 4, 5, 65535):
                self.assertEqual(read(f"1 2 3 4 {flags} 5 {most}")[6], most)

    def test_a_greatest_length_without_syn(self):
        for flags, text in enumerate(FLAG_TEXTS):
            if flags & SYN == 0:
                for most in (1, 3, 4, 16, 65535):
                    self.refuse(f"1 2 3 4 {text} 5 {most}")
                    self.refuse(f"1 2 3 4 {text} 5 {most} ff")

    def test_data_of_odd_length(self):
        for data in ("0", "f", "000", "0f1", "f" * 31, "f" * 33):
            self.refuse("1 2 3 4 ack 5 0 " + data)

    def test_data_with_great_letters_and_other_signs(self):
        for data in ("FF", "Ff", "fF", "0A", "A0", "0g", "g0", "zz", "0x", "-1", "+1", "0_", "_0", "..", "0x1f", "1.",
                     "none", "00FF", "FF00"):
            self.refuse("1 2 3 4 ack 5 0 " + data)
        for sign in SIGNS:
            if sign not in "0123456789abcdef":
                self.refuse("1 2 3 4 ack 5 0 0" + sign)
                self.refuse("1 2 3 4 ack 5 0 " + sign + "0")
                self.refuse("1 2 3 4 ack 5 0 00" + sign + "0")

    def test_data_of_more_than_16_bytes(self):
        self.assertEqual(read("1 2 3 4 ack 5 0 " + "ab" * 16)[7], (171,) * 16)
        for many in (17, 18, 32, 3000):
            self.refuse("1 2 3 4 ack 5 0 " + "ab" * many)
            self.refuse("1 2 3 4 ack 5 0 " + "00" * many)

    def test_other_signs_than_blanks_between(self):
        for sign in ("+", ",", "\t", "\n", "_"):
            self.refuse("1 2 3 4 ack 5 0".replace(" ", sign))
            self.refuse("1 2 3 4 ack 5 0" + sign)
            self.refuse(sign + "1 2 3 4 ack 5 0")

    def test_each_line_that_is_taken_is_the_line_of_its_segment(self):
        # Every line that differs from a right one by one sign: refused, or the very line of a segment.
        for line in ("0 65535 4294967295 10 syn+ack 64 16 0f", "1 20 300 0 none 65535 0", "7 8 9 10 fin+ack 0 0 a1b2"):
            near = [line[:place] + line[place + 1:] for place in range(len(line))]
            for sign in SIGNS:
                near += [line[:place] + sign + line[place:] for place in range(len(line) + 1)]
                near += [line[:place] + sign + line[place + 1:] for place in range(len(line))]
            taken = 0
            for other in near:
                try:
                    segment = read(other)
                except NoSegment:
                    continue
                taken += 1
                self.assertEqual(shown(segment), other)
                self.assertTrue(keeps_the_bounds(segment), other)
            self.assertGreater(taken, 0)


class HandedInTest(unittest.TestCase):
    def test_segments_stay_as_they_were(self):
        for segment, line in KNOWN:
            before = segment[:7] + (tuple(list(segment[7])),)
            shown(segment)
            self.assertEqual(segment, before)

    def test_nothing_is_kept_between_calls(self):
        for turn in range(2):
            for segment, line in KNOWN:
                self.assertEqual(shown(segment), line)
                self.assertEqual(read(line), segment)


if __name__ == "__main__":
    unittest.main()
