"""Promise [1.2]: words, folded sums and sums of rows."""

import unittest

from wirestream.sums import folded, sum_of

# Each row with its folded sum, worked out by hand.
KNOWN = (
    ([], 0),
    ([0], 0),
    ([0, 0], 0),
    ([0] * 37, 0),
    ([1], 256),
    ([255], 65280),
    ([0, 1], 1),
    ([1, 0], 256),
    ([1, 2], 258),
    ([1, 2, 3], 258 + 768),
    ([1, 2, 3, 4], 258 + 772),
    ([0, 0, 255], 65280),
    ([255, 255], 65535),
    ([255, 254, 0, 1], 65535),
    ([255, 255, 0, 1], 1),
    ([255, 255, 1], 256),
    ([255, 255, 255, 255], 65535),
    ([255] * 3, 65280),
)

# 131071 folds to 65536 first, and only then to 1.
FOLDED_TWICE = [255, 255, 255, 255, 0, 1]
# 4295032831 folds to 131071, to 65536 and to 1.
FOLDED_THRICE = [255, 255] * 65538 + [0, 1]


def rows():
    found = [row for row, wanted in KNOWN] + [FOLDED_TWICE, FOLDED_THRICE]
    for size in range(60):
        found.append([(size * 89 + place * 37) % 256 for place in range(size)])
        found.append([255 - place % 3 for place in range(size)])
    return found


def total_of_words(row):
    padded = row + [0] * (len(row) % 2)
    return sum(256 * padded[place] + padded[place + 1] for place in range(0, len(padded), 2))


class FoldedTest(unittest.TestCase):
    def test_rows_worked_out_by_hand(self):
        for row, wanted in KNOWN:
            self.assertEqual(folded(row), wanted, row)

    def test_sums_that_are_folded_more_than_once(self):
        self.assertEqual(folded(FOLDED_TWICE), 1)
        self.assertEqual(folded(FOLDED_THRICE), 1)
        self.assertEqual(folded(FOLDED_TWICE + [0, 7]), 8)

    def test_great_bytes(self):
        for words in (1, 2, 3, 1000, 65536, 65537, 65538):
            self.assertEqual(folded([255] * (2 * words)), 65535)

    def test_folding_is_counting_by_65535_with_nought_for_nought_alone(self):
        for row in rows():
            total = total_of_words(row)
            self.assertEqual(folded(row), 0 if total == 0 else (total - 1) % 65535 + 1)


class SumOfTest(unittest.TestCase):
    def test_rows_worked_out_by_hand(self):
        self.assertEqual(sum_of([]), 65535)
        self.assertEqual(sum_of([0, 0, 0]), 65535)
        self.assertEqual(sum_of([255, 255]), 0)
        self.assertEqual(sum_of([1]), 65279)
        self.assertEqual(sum_of([1, 2]), 65277)
        self.assertEqual(sum_of(FOLDED_TWICE), 65534)

    def test_it_is_65535_less_the_folded_sum(self):
        for row in rows():
            self.assertEqual(sum_of(row), 65535 - folded(row))

    def test_an_even_row_with_its_sum_behind_it_folds_to_65535(self):
        for row in rows():
            if len(row) % 2 == 0:
                found = sum_of(row)
                self.assertEqual(folded(row + [found // 256, found % 256]), 65535)


class HandedInTest(unittest.TestCase):
    def test_rows_stay_as_they_were(self):
        for row in rows():
            before = list(row)
            folded(row)
            self.assertEqual(row, before)
            sum_of(row)
            self.assertEqual(row, before)

    def test_nothing_is_kept_between_calls(self):
        row = [1, 2]
        self.assertEqual((folded(row), sum_of(row)), (258, 65277))
        row[1] = 3
        self.assertEqual((folded(row), sum_of(row)), (259, 65276))
        self.assertEqual((folded([]), sum_of([])), (0, 65535))


if __name__ == "__main__":
    unittest.main()
