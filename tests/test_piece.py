"""Point 2: piece and drop."""

import unittest

from boltpieces.stock import Stock
from tests.helper import BEGINS, HUGE, asked, bolt, drop, last, piece


def left_of(pieces, *dropped):
    """The lengths of the pieces that a stock has left."""
    stock = Stock()
    for length in pieces:
        stock.piece(length)
    for k in dropped:
        stock.drop(k)
    return stock.pieces


class Piece(unittest.TestCase):
    def test_numbers(self):
        self.assertEqual(asked(*[piece(7)] * 6), [[0], [1], [2], [3], [4], [5]])

    def test_length(self):
        self.assertEqual(last(piece(0)), [-1])
        self.assertEqual(last(piece(1)), [0])
        self.assertEqual(last(piece(60)), [0])
        self.assertEqual(last(piece(61)), [-1])
        self.assertEqual(last(piece(HUGE)), [-1])

    def test_seventh_piece(self):
        self.assertEqual(last(*[piece(7)] * 7), [-5])
        self.assertEqual(last(*[piece(7)] * 8), [-5])

    def test_not_as_told_goes_first(self):
        six = [piece(7)] * 6
        for length in [0, 61, HUGE]:
            self.assertEqual(last(*six, piece(length)), [-1])

    def test_nothing_is_added_when_refused(self):
        self.assertEqual(asked(piece(3), piece(0), piece(61), piece(4), drop(0)), [[0], [-1], [-1], [1], [1]])
        self.assertEqual(last(*[piece(7)] * 6, piece(8), drop(6)), [-2])
        self.assertEqual(last(*[piece(7)] * 6, piece(8), drop(5)), [5])

    def test_bolts_are_not_asked_for(self):
        self.assertEqual(asked(piece(60), bolt(1), piece(60)), [[0], [0, 2, 0, 1], [1]])


class Drop(unittest.TestCase):
    def test_how_many_are_left(self):
        three = [piece(3), piece(4), piece(5)]
        for k in range(3):
            self.assertEqual(last(*three, drop(k)), [2])

    def test_until_none_is_left(self):
        self.assertEqual(asked(piece(3), piece(4), drop(1), drop(0), drop(0))[2:], [[1], [0], [-2]])

    def test_those_behind_move_up(self):
        self.assertEqual(left_of([3, 4, 5, 6], 0), [4, 5, 6])
        self.assertEqual(left_of([3, 4, 5, 6], 1), [3, 5, 6])
        self.assertEqual(left_of([3, 4, 5, 6], 3), [3, 4, 5])
        self.assertEqual(left_of([3, 4, 5, 6], 0, 1, 1), [4])

    def test_the_last_number_is_free_again(self):
        given = asked(piece(3), piece(4), piece(5), drop(0), drop(2), piece(6), drop(2))
        self.assertEqual(given, [[0], [1], [2], [2], [-2], [2], [2]])

    def test_room_for_one_piece_more(self):
        self.assertEqual(asked(*[piece(7)] * 7, drop(2), piece(7), piece(7))[6:], [[-5], [5], [5], [-5]])

    def test_no_such_piece(self):
        for k in [2, 3, HUGE]:
            self.assertEqual(last(piece(3), piece(4), drop(k)), [-2])

    def test_none_at_all(self):
        self.assertEqual(last(drop(0)), [-2])
        self.assertEqual(last(bolt(5), drop(0)), [-2])
        self.assertEqual(last(piece(5), BEGINS, drop(0)), [-2])

    def test_nothing_is_dropped_when_refused(self):
        self.assertEqual(asked(piece(3), piece(4), drop(2), piece(5), drop(9), drop(2))[2:], [[-2], [2], [-2], [2]])
        self.assertEqual(left_of([3, 4, 5], 3, HUGE), [3, 4, 5])


if __name__ == "__main__":
    unittest.main()
