"""Promise [0.3]: numbers that go round."""

import unittest

from wirestream.rounds import offset, past, plus

ROUND = 4294967296
LAST = 4294967295
BASES = (0, 1, 2, 65535, 2147483646, 2147483647, 2147483648, 2147483649, 4294967294, LAST)
GREATEST_WHOLE = 10**100 - 1


class PlusTest(unittest.TestCase):
    def test_small_steps(self):
        self.assertEqual(plus(5, 3), 8)
        self.assertEqual(plus(5, -3), 2)
        self.assertEqual(plus(5, 0), 5)
        self.assertEqual(plus(0, 0), 0)
        self.assertEqual(plus(LAST, 0), LAST)

    def test_forward_over_the_rounds_end(self):
        self.assertEqual(plus(LAST, 1), 0)
        self.assertEqual(plus(LAST, 2), 1)
        self.assertEqual(plus(4294967290, 16), 10)
        self.assertEqual(plus(1, LAST), 0)
        self.assertEqual(plus(LAST, LAST), 4294967294)

    def test_back_over_the_rounds_end(self):
        self.assertEqual(plus(0, -1), LAST)
        self.assertEqual(plus(3, -10), 4294967289)
        self.assertEqual(plus(0, -LAST), 1)
        self.assertEqual(plus(LAST, -ROUND), LAST)

    def test_whole_rounds_change_nothing(self):
        for number in BASES:
            for rounds in (1, 2, 7, 1000, 10**60):
                self.assertEqual(plus(number, rounds * ROUND), number)
                self.assertEqual(plus(number, -rounds * ROUND), number)

    def test_many_rounds_and_a_rest(self):
        self.assertEqual(plus(10, 3 * ROUND + 5), 15)
        self.assertEqual(plus(10, -3 * ROUND - 5), 5)
        self.assertEqual(plus(LAST, 10**6 * ROUND + 1), 0)
        self.assertEqual(plus(0, -(10**6) * ROUND - 1), LAST)

    def test_steps_of_a_hundred_figures(self):
        for number in BASES:
            for step in (GREATEST_WHOLE, -GREATEST_WHOLE):
                gone = plus(number, step)
                self.assertTrue(0 <= gone <= LAST)
                self.assertEqual((number + step - gone) % ROUND, 0)
                self.assertEqual(plus(gone, -step), number)


class OffsetTest(unittest.TestCase):
    def test_equal_numbers(self):
        for base in BASES:
            self.assertEqual(offset(base, base), 0)

    def test_one_ahead_and_one_behind_across_the_rounds_end_too(self):
        for base in BASES:
            self.assertEqual(offset((base + 1) % ROUND, base), 1)
            self.assertEqual(offset((base - 1) % ROUND, base), -1)

    def test_written_out_across_the_rounds_end(self):
        self.assertEqual(offset(0, LAST), 1)
        self.assertEqual(offset(LAST, 0), -1)
        self.assertEqual(offset(10, 4294967290), 16)
        self.assertEqual(offset(4294967290, 10), -16)
        self.assertEqual(offset(LAST, 2147483648), 2147483647)
        self.assertEqual(offset(2147483648, LAST), -2147483647)

    def test_half_a_round_off(self):
        wanted = {2147483647: 2147483647, 2147483648: -2147483648, 2147483649: -2147483647}
        for base in BASES:
            for ahead, answer in wanted.items():
                self.assertEqual(offset((base + ahead) % ROUND, base), answer)

    def test_every_pair_keeps_its_bounds_and_leads_back(self):
        for base in BASES:
            for number in BASES:
                off = offset(number, base)
                self.assertTrue(-2147483648 <= off <= 2147483647)
                self.assertEqual(plus(base, off), number)


class PastTest(unittest.TestCase):
    def test_past_is_a_truth_and_true_just_where_the_offset_is_above_nought(self):
        for base in BASES:
            for ahead in (1, 2, 64, 2147483646, 2147483647):
                self.assertIs(past((base + ahead) % ROUND, base), True)
            for ahead in (0, 2147483648, 2147483649, 4294967294, LAST):
                self.assertIs(past((base + ahead) % ROUND, base), False)

    def test_past_and_offset_agree(self):
        for base in BASES:
            for number in BASES:
                self.assertIs(past(number, base), offset(number, base) > 0)

    def test_half_a_round_off_neither_lies_past_the_other(self):
        self.assertIs(past(0, 2147483648), False)
        self.assertIs(past(2147483648, 0), False)


if __name__ == "__main__":
    unittest.main()
