"""Point 3: best."""

import itertools
import unittest

from tests.helper import BEGINS, BEST, asked, bolt, drop, last, pieces, told


def best(*calls):
    return last(*calls, BEST)


class NoPieces(unittest.TestCase):
    of_none = [0, 2, 0, 1, 0, 0]

    def test_nothing_there(self):
        self.assertEqual(best(), self.of_none)

    def test_bolts_alone(self):
        self.assertEqual(best(bolt(10, 5)), self.of_none)
        self.assertEqual(best(bolt(10, 0), bolt(20, 0, (3, 4))), self.of_none)

    def test_dropped_pieces(self):
        self.assertEqual(best(bolt(10, 5), *pieces(11, 3), drop(0), drop(0)), self.of_none)

    def test_after_begins(self):
        self.assertEqual(best(bolt(10, 5), *pieces(11), BEGINS), self.of_none)


class NoCutting(unittest.TestCase):
    def test_no_bolt(self):
        self.assertEqual(best(*pieces(1)), [-6])

    def test_no_sound_place(self):
        self.assertEqual(best(bolt(10, 5, (0, 10)), *pieces(1)), [-6])

    def test_a_piece_too_long(self):
        self.assertEqual(best(bolt(10, 5), *pieces(11)), [-6])
        self.assertEqual(best(bolt(10, 5), bolt(10, 5), *pieces(3, 11)), [-6])

    def test_no_piece_over_a_fault(self):
        self.assertEqual(best(bolt(60, 5, (30, 31)), *pieces(31)), [-6])
        self.assertEqual(best(bolt(60, 5, (30, 31)), *pieces(30))[0], 5)

    def test_together_too_long(self):
        self.assertEqual(best(bolt(10, 5), *pieces(5, 6)), [-6])
        self.assertEqual(best(bolt(10, 5), *pieces(5, 5))[0], 5)

    def test_room_enough_but_not_in_a_row(self):
        self.assertEqual(best(bolt(7, 5), bolt(7, 5), *pieces(4, 4, 4)), [-6])

    def test_a_cutting_once_the_piece_is_dropped(self):
        given = asked(bolt(10, 5), *pieces(11, 4), BEST, drop(0), BEST)
        self.assertEqual(given[3:], [[-6], [1], [5, 2, 6, 1, 1, 0, 1, 0, 2, 0, 0]])

    def test_nothing_changes(self):
        given = asked(bolt(10, 5), *pieces(6, 6), BEST, bolt(10, 1), BEST)
        self.assertEqual(given[3:], [[-6], [1, 2, 0, 10], [6, 2, 4, 2, 2, 0, 1, 2, 0, 1, 2, 0, 0, 2, 1, 0]])


class Cost(unittest.TestCase):
    def test_the_cheaper_bolt(self):
        self.assertEqual(best(bolt(10, 5), bolt(10, 3), *pieces(4)), [3, 2, 6, 1, 1, 1, 1, 1, 2, 1, 0])
        self.assertEqual(best(bolt(10, 3), bolt(10, 5), *pieces(4)), [3, 2, 6, 1, 1, 0, 1, 0, 2, 0, 0])

    def test_cheaper_goes_before_a_longer_rest(self):
        self.assertEqual(best(bolt(60, 4), bolt(10, 3), *pieces(4)), [3, 2, 6, 1, 1, 1, 1, 1, 2, 1, 0])

    def test_two_cheap_bolts_and_one_dear_one(self):
        dear = [bolt(5, 3), bolt(5, 3), bolt(10, 7)]
        self.assertEqual(best(*dear, *pieces(5, 5)), [6, 2, 0, 2, 2, 0, 1, 2, 0, 1, 2, 0, 0, 2, 1, 0])
        less_dear = [bolt(5, 3), bolt(5, 3), bolt(10, 5)]
        self.assertEqual(best(*less_dear, *pieces(5, 5)), [5, 2, 0, 1, 1, 2, 2, 2, 2, 2, 2, 0, 2, 2, 5])

    def test_a_begun_bolt_costs_once(self):
        self.assertEqual(
            best(bolt(20, 7, (5, 6)), *pieces(5, 5, 5)),
            [7, 2, 4, 3, 1, 0, 3, 0, 1, 1, 2, 0, 0, 2, 0, 6, 2, 0, 11],
        )

    def test_the_dearest(self):
        self.assertEqual(best(*[bolt(60, 10000)] * 4, *pieces(60, 60, 60, 60))[:4], [40000, 2, 0, 24])

    def test_bolts_that_cost_nothing(self):
        self.assertEqual(best(bolt(10), *pieces(4)), [0, 2, 6, 1, 1, 0, 1, 0, 2, 0, 0])
        self.assertEqual(best(bolt(10, 1), bolt(10), *pieces(4, 6)),
                         [0, 2, 0, 1, 1, 1, 2, 1, 1, 2, 1, 0, 2, 1, 4])

    def test_one_bolt_more_for_nothing(self):
        # All on one bolt would leave less: begun bolts may be more than needed.
        self.assertEqual(best(bolt(10), bolt(12), *pieces(4, 4)),
                         [0, 2, 8, 2, 2, 0, 1, 2, 0, 1, 2, 0, 0, 2, 1, 0])


class Rest(unittest.TestCase):
    def test_the_longer_rest_of_as_cheap_ones(self):
        self.assertEqual(best(bolt(10, 3), bolt(12, 3), *pieces(4)), [3, 2, 8, 1, 1, 1, 1, 1, 2, 1, 0])
        self.assertEqual(best(bolt(12, 3), bolt(10, 3), *pieces(4)), [3, 2, 8, 1, 1, 0, 1, 0, 2, 0, 0])

    def test_a_bolt_not_begun_has_none(self):
        self.assertEqual(best(bolt(10, 3), bolt(60, 4), *pieces(4))[:3], [3, 2, 6])
        self.assertEqual(best(bolt(10, 0), bolt(9, 0), *pieces(10))[:4], [0, 2, 0, 1])

    def test_another_stretch_of_a_begun_bolt(self):
        self.assertEqual(best(bolt(20, 1, (4, 5)), *pieces(4)), [1, 2, 15, 1, 1, 0, 1, 0, 2, 0, 0])
        self.assertEqual(best(bolt(20, 1, (15, 16)), *pieces(4)), [1, 2, 15, 1, 1, 0, 1, 1, 2, 0, 16])

    def test_the_longest_alone_counts(self):
        # Both pieces on one stretch leave 2 and 10; one on each leaves 4 and 8.
        self.assertEqual(best(bolt(21, 1, (10, 11)), *pieces(6, 2))[:4], [1, 2, 10, 2])
        # 6 and 2 together leave 0 and 7; 6 and 1 leave 1 and 6; 6 alone leaves 2 and 5.
        self.assertEqual(best(bolt(17, 1, (8, 9)), *pieces(6, 2, 1)),
                         [1, 2, 7, 2, 1, 0, 3, 0, 0, 1, 2, 0, 0, 2, 0, 6, 2, 0, 9])

    def test_none(self):
        self.assertEqual(best(bolt(5, 2), *pieces(5)), [2, 2, 0, 1, 1, 0, 1, 0, 2, 0, 0])
        self.assertEqual(best(bolt(7, 2, (3, 4)), *pieces(3, 3)), [2, 2, 0, 2, 1, 0, 2, 0, 1, 2, 0, 0, 2, 0, 4])


class AsGood(unittest.TestCase):
    def test_pieces_of_the_same_length_are_told_apart(self):
        self.assertEqual(best(bolt(10, 1, (4, 6)), *pieces(3, 3)), [1, 2, 1, 2, 1, 0, 2, 0, 1, 2, 0, 0, 2, 0, 6])
        self.assertEqual(best(*[bolt(5, 1)] * 4, *pieces(5, 5, 5))[:4], [3, 2, 0, 24])

    def test_bolts_of_the_same_kind_are_told_apart(self):
        self.assertEqual(best(bolt(10, 3), bolt(10, 3), *pieces(4)), [3, 2, 6, 2, 1, 0, 1, 0, 2, 0, 0])

    def test_cheap_but_with_less_rest_are_not_as_good(self):
        # On the first stretch it leaves 2 and 8, on the second one 5 and 5.
        self.assertEqual(best(bolt(14, 1, (5, 6)), *pieces(3))[:4], [1, 2, 8, 1])

    def test_the_same_rest_left_in_another_way(self):
        # 2 and 3 from stretches of 3 and 5: told as 1, 0 they leave 0 and 3; as 1, 1 they leave 3 and 0.
        self.assertEqual(best(bolt(9, 1, (3, 4)), *pieces(2, 3)), [1, 2, 3, 2, 1, 0, 2, 1, 0, 2, 0, 4, 2, 0, 0])

    def test_many(self):
        six = bolt(41, 1, (6, 7), (13, 14), (20, 21), (27, 28), (34, 35))
        self.assertEqual(best(six, *pieces(6, 6, 6, 6, 6, 6))[:4], [1, 2, 0, 720])
        # All 6 ** 6 but those that leave no stretch of 6 whole: these are 720.
        self.assertEqual(best(six, *pieces(1, 1, 1, 1, 1, 1))[:4], [1, 2, 6, 6 ** 6 - 720])

    def test_the_earliest(self):
        six = bolt(41, 1, (6, 7), (13, 14), (20, 21), (27, 28), (34, 35))
        self.assertEqual(best(six, *pieces(1, 1, 1, 1, 1, 1))[4:13], [1, 0, 6, 0, 0, 0, 0, 0, 0])
        self.assertEqual(best(six, *pieces(6, 5, 4, 3, 2, 1))[4:13], [1, 0, 6, 0, 1, 2, 3, 2, 1])


class Lists(unittest.TestCase):
    def test_bolts_begun_rise(self):
        self.assertEqual(best(bolt(5, 1), bolt(8, 2), *pieces(8, 5)),
                         [3, 2, 0, 1, 2, 0, 1, 2, 1, 0, 2, 1, 0, 2, 0, 0])

    def test_a_bolt_not_begun_between(self):
        self.assertEqual(best(bolt(5, 1), bolt(5, 9), bolt(8, 1), *pieces(8, 5)),
                         [2, 2, 0, 1, 2, 0, 2, 2, 2, 0, 2, 2, 0, 2, 0, 0])

    def test_a_bolt_without_a_stretch_has_its_number(self):
        self.assertEqual(best(bolt(3, 0, (0, 3)), bolt(5, 1), *pieces(5)), [1, 2, 0, 1, 1, 1, 1, 0, 2, 1, 0])

    def test_pieces_lie_behind_one_another(self):
        self.assertEqual(best(bolt(20, 7, (0, 3)), *pieces(4, 5, 6)),
                         [7, 2, 2, 1, 1, 0, 3, 0, 0, 0, 2, 0, 3, 2, 0, 7, 2, 0, 12])

    def test_pieces_of_another_stretch_lie_between(self):
        self.assertEqual(best(bolt(16, 7, (0, 2), (9, 10)), *pieces(3, 5, 4, 1)),
                         [7, 2, 0, 1, 1, 0, 4, 0, 1, 0, 1, 2, 0, 2, 2, 0, 10, 2, 0, 5, 2, 0, 15])

    def test_dropped_pieces_move_up(self):
        self.assertEqual(best(bolt(20, 7), *pieces(4, 5, 6), drop(0)),
                         [7, 2, 9, 1, 1, 0, 2, 0, 0, 2, 0, 0, 2, 0, 5])
        self.assertEqual(best(bolt(20, 7), *pieces(4, 5, 6), drop(1)),
                         [7, 2, 10, 1, 1, 0, 2, 0, 0, 2, 0, 0, 2, 0, 4])


class OneByOne(unittest.TestCase):
    """Against the best of all cuttings, looked at one by one."""

    def check_all(self, stocks, lengths):
        for stock in stocks:
            for count in range(4):
                for wanted in itertools.product(lengths, repeat=count):
                    calls = [*stock, *pieces(*wanted), BEST]
                    self.assertEqual(last(*calls), told(calls)[-1], calls)

    def test_one_bolt(self):
        stocks = [[bolt(length, 2, (2, 3), (5, 6))] for length in range(1, 12)]
        self.check_all(stocks, range(1, 6))

    def test_three_bolts(self):
        kinds = [bolt(3, 1), bolt(5, 1, (2, 3)), bolt(4, 0), bolt(6, 2, (0, 1), (3, 4))]
        self.check_all(itertools.product(kinds[:3], kinds, kinds[:3]), range(1, 4))


if __name__ == "__main__":
    unittest.main()
