"""Point 3: check."""

import itertools
import unittest

from tests.helper import BEGINS, BEST, HUGE, STRETCHES, asked, bolt, check, drop, last, pieces, told

# The stretches: of bolt 0 one of 6 from 3 on, and one of 10 from 10 on; of bolt 1 one of 8.
TWO = [bolt(20, 7, (0, 3), (9, 10)), bolt(8, 5)]


class NotAsTold(unittest.TestCase):
    def test_too_few(self):
        self.assertEqual(last(*TWO, *pieces(1, 1), check(0)), [-1])
        self.assertEqual(last(*TWO, *pieces(1, 1), check()), [-1])
        self.assertEqual(last(*TWO, *pieces(1), check()), [-1])

    def test_too_many(self):
        self.assertEqual(last(*TWO, check(0)), [-1])
        self.assertEqual(last(*TWO, *pieces(1, 1), check(0, 0, 0)), [-1])
        self.assertEqual(last(*TWO, *pieces(1, 1), check(*[0] * 20)), [-1])

    def test_a_stretch_that_there_is_not(self):
        self.assertEqual(last(*TWO, *pieces(1), check(2))[0], 5)
        for k in [3, 4, 6, HUGE]:
            self.assertEqual(last(*TWO, *pieces(1), check(k)), [-1], k)
            self.assertEqual(last(*TWO, *pieces(1, 1), check(0, k)), [-1], k)
            self.assertEqual(last(*TWO, *pieces(1, 1), check(k, 0)), [-1], k)

    def test_no_stretch_at_all(self):
        self.assertEqual(last(*pieces(1), check(0)), [-1])
        self.assertEqual(last(bolt(5, 1, (0, 5)), *pieces(1), check(0)), [-1])
        self.assertEqual(last(*TWO, BEGINS, *pieces(1), check(0)), [-1])

    def test_a_bolt_is_no_stretch(self):
        self.assertEqual(last(bolt(5, 1, (0, 5)), bolt(5), *pieces(1), check(1)), [-1])

    def test_it_goes_before_too_long(self):
        self.assertEqual(last(*TWO, *pieces(60, 1), check(0, 3)), [-1])
        self.assertEqual(last(*TWO, *pieces(1, 60), check(3, 0)), [-1])
        self.assertEqual(last(*TWO, *pieces(60, 60), check(0)), [-1])
        self.assertEqual(last(*TWO, *pieces(60, 60), check(0, 0, 0)), [-1])

    def test_the_row_is_read_to_its_end(self):
        self.assertEqual(asked(*TWO, check(5, 5, 5), STRETCHES)[2:],
                         [[-1], [3, 3, 0, 3, 6, 3, 0, 10, 10, 3, 1, 0, 8]])


class NoCutting(unittest.TestCase):
    def test_one_stretch(self):
        self.assertEqual(last(*TWO, *pieces(7), check(0)), [-6, 1, 0])
        self.assertEqual(last(*TWO, *pieces(11), check(1)), [-6, 1, 1])
        self.assertEqual(last(*TWO, *pieces(9), check(2)), [-6, 1, 2])

    def test_just_long_enough(self):
        self.assertEqual(last(*TWO, *pieces(6), check(0))[0], 7)
        self.assertEqual(last(*TWO, *pieces(10), check(1))[0], 7)
        self.assertEqual(last(*TWO, *pieces(8), check(2))[0], 5)
        self.assertEqual(last(*TWO, *pieces(4, 2, 5), check(0, 0, 1))[0], 7)

    def test_pieces_together(self):
        self.assertEqual(last(*TWO, *pieces(3, 4), check(0, 0)), [-6, 1, 0])
        self.assertEqual(last(*TWO, *pieces(3, 4, 3, 5), check(0, 1, 0, 1)),
                         [7, 1, 1, 1, 0, 4, 0, 1, 0, 1, 2, 0, 3, 2, 0, 10, 2, 0, 6, 2, 0, 14])
        self.assertEqual(last(*TWO, *pieces(3, 4, 4, 5), check(0, 1, 0, 1)), [-6, 1, 0])

    def test_several_rising(self):
        self.assertEqual(last(*TWO, *pieces(9, 7), check(2, 0)), [-6, 2, 0, 2])
        self.assertEqual(last(*TWO, *pieces(7, 9), check(0, 2)), [-6, 2, 0, 2])
        self.assertEqual(last(*TWO, *pieces(60, 60, 60), check(2, 1, 0)), [-6, 3, 0, 1, 2])

    def test_each_once(self):
        self.assertEqual(last(*TWO, *pieces(60, 60, 60, 60), check(2, 2, 1, 1)), [-6, 2, 1, 2])

    def test_also_where_there_is_none_at_all(self):
        self.assertEqual(asked(bolt(5), *pieces(6), check(0), BEST)[2:], [[-6, 1, 0], [-6]])

    def test_nothing_changes(self):
        given = asked(*TWO, *pieces(7), check(0), check(1), check(9), STRETCHES, drop(0))
        self.assertEqual(given[3:], [[-6, 1, 0], [7, 1, 6, 1, 0, 1, 1, 2, 0, 10], [-1],
                                     [3, 3, 0, 3, 6, 3, 0, 10, 10, 3, 1, 0, 8], [0]])


class Right(unittest.TestCase):
    def test_without_pieces(self):
        self.assertEqual(last(check()), [0, 1, 0, 0, 0])
        self.assertEqual(last(*TWO, check()), [0, 1, 0, 0, 0])

    def test_not_the_best(self):
        self.assertEqual(last(*TWO, *pieces(4), BEST), [5, 2, 4, 1, 1, 1, 1, 2, 2, 1, 0])
        self.assertEqual(last(*TWO, *pieces(4), check(0)), [7, 1, 10, 1, 0, 1, 0, 2, 0, 3])
        self.assertEqual(last(*TWO, *pieces(4), check(1)), [7, 1, 6, 1, 0, 1, 1, 2, 0, 10])

    def test_the_best(self):
        self.assertEqual(last(*TWO, *pieces(4), check(2)), [5, 1, 4, 1, 1, 1, 2, 2, 1, 0])

    def test_bolts_rise_and_pieces_lie_in_order(self):
        self.assertEqual(
            last(*TWO, *pieces(3, 4, 2, 5, 1, 1), check(2, 1, 0, 2, 1, 0)),
            [12, 1, 5, 2, 0, 1, 6, 2, 1, 0, 2, 1, 0, 2, 1, 0, 2, 0, 10, 2, 0, 3, 2, 1, 3, 2, 0, 14, 2, 0, 5],
        )

    def test_the_rest_is_of_begun_bolts(self):
        self.assertEqual(last(*TWO, *pieces(8), check(2))[:3], [5, 1, 0])
        self.assertEqual(last(*TWO, *pieces(6), check(0))[:3], [7, 1, 10])
        self.assertEqual(last(*TWO, *pieces(6, 10), check(0, 1))[:3], [7, 1, 0])

    def test_bolts_that_cost_nothing(self):
        self.assertEqual(last(bolt(9), bolt(9), *pieces(2, 3), check(1, 0)),
                         [0, 1, 7, 2, 0, 1, 2, 1, 0, 2, 1, 0, 2, 0, 0])

    def test_pieces_that_moved_up(self):
        self.assertEqual(last(*TWO, *pieces(10, 4, 5), drop(0), check(2, 1)),
                         [12, 1, 6, 2, 0, 1, 2, 2, 1, 2, 1, 0, 2, 0, 10])

    def test_every_row(self):
        for wanted in [(), (3,), (6, 2), (3, 5, 4), (8, 8, 2), (1, 2, 3, 4)]:
            rows = itertools.product(range(4), repeat=len(wanted))
            for row in rows:
                calls = [*TWO, *pieces(*wanted), check(*row)]
                self.assertEqual(last(*calls), told(calls)[-1], calls)


if __name__ == "__main__":
    unittest.main()
