"""Point 3: more."""

import itertools
import unittest

from tests.helper import BEST, HUGE, asked, bolt, drop, last, more, piece, pieces, told


class NotAsTold(unittest.TestCase):
    def test_length(self):
        self.assertEqual(last(bolt(60, 3), more(0)), [-1])
        self.assertEqual(last(bolt(60, 3), more(1)), [1, 1, 3])
        self.assertEqual(last(bolt(60, 3), more(60)), [1, 1, 3])
        self.assertEqual(last(bolt(60, 3), more(61)), [-1])
        self.assertEqual(last(bolt(60, 3), more(HUGE)), [-1])

    def test_it_goes_before_no_cutting(self):
        for length in [0, 61, HUGE]:
            self.assertEqual(last(bolt(10, 3), *pieces(11), more(length)), [-1])
            self.assertEqual(last(*pieces(1), more(length)), [-1])

    def test_with_six_pieces(self):
        for length in [0, 61]:
            self.assertEqual(last(bolt(10, 3), *pieces(1, 1, 1, 1, 1, 1), more(length)), [-1])


class NoCuttingAlready(unittest.TestCase):
    def test_no_bolt(self):
        self.assertEqual(last(*pieces(1), more(1)), [-6])

    def test_too_long(self):
        self.assertEqual(last(bolt(10, 3), *pieces(11), more(1)), [-6])
        self.assertEqual(last(bolt(10, 3), *pieces(5, 6), more(1)), [-6])
        self.assertEqual(last(bolt(7, 3), bolt(7, 3), *pieces(4, 4, 4), more(60)), [-6])

    def test_with_six_pieces(self):
        self.assertEqual(last(bolt(10, 3), *pieces(2, 2, 2, 2, 2, 2), more(1)), [-6])


class NoneWithIt(unittest.TestCase):
    def test_nothing_there(self):
        self.assertEqual(last(more(1)), [0])
        self.assertEqual(last(bolt(5, 3, (0, 5)), more(1)), [0])

    def test_too_long(self):
        self.assertEqual(last(bolt(10, 3), more(10)), [1, 1, 3])
        self.assertEqual(last(bolt(10, 3), more(11)), [0])

    def test_no_room_beside_the_others(self):
        self.assertEqual(last(bolt(10, 3), *pieces(4), more(6)), [1, 1, 0])
        self.assertEqual(last(bolt(10, 3), *pieces(4), more(7)), [0])
        self.assertEqual(last(bolt(7, 3), bolt(7, 3), *pieces(4, 4), more(4)), [0])

    def test_no_room_over_a_fault(self):
        self.assertEqual(last(bolt(60, 3, (30, 31)), more(30)), [1, 1, 3])
        self.assertEqual(last(bolt(60, 3, (30, 31)), more(31)), [0])

    def test_with_six_pieces(self):
        self.assertEqual(last(bolt(10, 3), *pieces(2, 2, 2, 2, 1, 1), more(1)), [0])


class HowMuchMore(unittest.TestCase):
    def test_the_first_piece(self):
        self.assertEqual(last(bolt(10, 7), bolt(10, 3), bolt(60, 8), more(4)), [1, 1, 3])
        self.assertEqual(last(bolt(10, 7), bolt(10, 3), bolt(60, 8), more(11)), [1, 1, 8])

    def test_nothing_more(self):
        self.assertEqual(last(bolt(10, 7), *pieces(4), more(6)), [1, 1, 0])
        self.assertEqual(last(bolt(10, 7, (4, 5)), *pieces(4), more(5)), [1, 1, 0])
        self.assertEqual(last(bolt(10, 0), more(10)), [1, 1, 0])

    def test_one_bolt_more(self):
        self.assertEqual(last(bolt(10, 7), bolt(10, 9), *pieces(4), more(7)), [1, 1, 9])
        self.assertEqual(last(bolt(10, 7), bolt(10, 0), *pieces(4), more(10)), [1, 1, 7])

    def test_another_bolt_in_its_place(self):
        # Both on the long bolt for 8, where the short one alone was begun for 5.
        self.assertEqual(last(bolt(10, 5), bolt(20, 8), *pieces(6), more(6)), [1, 1, 3])

    def test_the_others_move_for_it(self):
        # Alone, 1 lies best on the bolt of 5; beside a piece of 5 it can't stay there.
        self.assertEqual(last(bolt(5, 3), bolt(4, 3), *pieces(1), BEST), [3, 2, 4, 1, 1, 0, 1, 0, 2, 0, 0])
        self.assertEqual(last(bolt(5, 3), bolt(4, 3), *pieces(1), more(5)), [1, 1, 3])

    def test_all_bolts(self):
        self.assertEqual(last(*[bolt(60, 10000)] * 4, more(1)), [1, 1, 10000])
        self.assertEqual(last(*[bolt(60, 10000)] * 4, *pieces(60, 60, 60), more(60)), [1, 1, 10000])
        self.assertEqual(last(*[bolt(60, 0)] * 3, bolt(60, 10000), *pieces(60, 60, 60), more(1)), [1, 1, 10000])

    def test_a_seventh_piece(self):
        six = pieces(1, 1, 1, 1, 1, 1)
        self.assertEqual(last(bolt(10, 3), *six, more(4)), [1, 1, 0])
        self.assertEqual(last(bolt(10, 3), bolt(5, 2), *six, more(5)), [1, 1, 2])
        self.assertEqual(last(*[bolt(9, 2, (4, 5))] * 3, *pieces(4, 4, 4, 4, 4, 3), more(1)), [1, 1, 0])

    def test_as_best_tells_with_the_piece(self):
        for costs in itertools.product([0, 2, 3], repeat=3):
            stock = [bolt(5, costs[0]), bolt(9, costs[1], (4, 5)), bolt(7, costs[2])]
            for wanted in [(), (4,), (5, 2), (3, 3, 3), (4, 4, 4, 2), (5, 4, 4, 6, 1)]:
                calls = [*stock, *pieces(*wanted), BEST]
                before = last(*calls)[0]
                for length in range(1, 9):
                    then = last(*calls, piece(length), BEST)[0]
                    given = last(*calls, more(length))
                    self.assertEqual(given, [0] if then == -6 else [1, 1, then - before], calls)
                    self.assertEqual(given, told([*calls, more(length)])[-1], calls)


class NothingStays(unittest.TestCase):
    def test_the_pieces_are_as_they_were(self):
        for length in [0, 4, 6, 7, 61]:
            given = asked(bolt(10, 3), *pieces(4), BEST, more(length), BEST, piece(1), drop(2))
            self.assertEqual(given[2], given[4])
            self.assertEqual(given[5:], [[1], [-2]])

    def test_six_pieces_stay_six(self):
        given = asked(bolt(10, 3), *pieces(1, 1, 1, 1, 1, 1), more(2), piece(1), drop(6), drop(5))
        self.assertEqual(given[7:], [[1, 1, 0], [-5], [-2], [5]])

    def test_again(self):
        given = asked(bolt(10, 3), bolt(10, 4), *pieces(4), more(6), more(7), more(6), more(10), more(11))
        self.assertEqual(given[3:], [[1, 1, 0], [1, 1, 4], [1, 1, 0], [1, 1, 4], [0]])


if __name__ == "__main__":
    unittest.main()
