"""Promise [2.1]: buffers and their bounds."""

import unittest

from wirestream.piles import Pile, lay, room, take


class PileTest(unittest.TestCase):
    def test_a_new_pile_is_empty_and_shares_nothing(self):
        one, other = Pile(), Pile()
        self.assertEqual((one.row, room(one)), ([], 64))
        lay(one, [1, 2])
        self.assertEqual((other.row, room(other)), ([], 64))

    def test_what_is_laid_takes_room_and_what_is_taken_gives_it_back(self):
        pile = Pile()
        self.assertEqual(lay(pile, [1, 2, 3]), 3)
        self.assertEqual(room(pile), 61)
        self.assertEqual(take(pile, 2), [1, 2])
        self.assertEqual(room(pile), 63)
        self.assertEqual(lay(pile, [4]), 1)
        self.assertEqual(take(pile, 9), [3, 4])
        self.assertEqual(room(pile), 64)

    def test_no_more_is_laid_than_there_is_room_for(self):
        for ahead in (0, 1, 63, 64):
            for many in (0, 1, 2, 63, 64, 65, 1000):
                pile = Pile()
                lay(pile, [7] * ahead)
                row = [place % 256 for place in range(many)]
                taken = min(many, 64 - ahead)
                self.assertEqual(lay(pile, row), taken)
                self.assertEqual(pile.row, [7] * ahead + row[:taken])
                self.assertEqual(room(pile), 64 - ahead - taken)

    def test_taking_as_many_as_there_are_at_most(self):
        for many in (-1, 0, 1, 2, 3, 4, 64, 10**100 - 1):
            pile = Pile()
            lay(pile, [5, 6, 7])
            taken = max(0, min(many, 3))
            self.assertEqual(take(pile, many), [5, 6, 7][:taken])
            self.assertEqual(pile.row, [5, 6, 7][taken:])

    def test_rows_that_are_handed_in_or_given_are_not_kept(self):
        pile = Pile()
        row = [1, 2, 3]
        lay(pile, row)
        self.assertEqual(row, [1, 2, 3])
        row[0] = 99
        row.append(4)
        given = take(pile, 1)
        given.append(98)
        self.assertEqual(pile.row, [2, 3])
        empty = take(pile, 0)
        empty.append(97)
        self.assertEqual(take(pile, 5), [2, 3])


if __name__ == "__main__":
    unittest.main()
