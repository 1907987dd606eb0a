"""Point 1: bolt, and begins."""

import itertools
import re
import unittest

from tests.helper import BEGINS, HUGE, asked, bolt, last, piece


def stretches_by_text(length, faults):
    """The same stretches found another way: runs of dots in a text."""
    text = "".join(
        "x" if any(first <= place < second for first, second in faults) else "."
        for place in range(length)
    )
    found = []
    for run in re.finditer(r"\.+", text):
        found += [2, run.start(), run.end() - run.start()]
    return found


class Stretches(unittest.TestCase):
    def test_no_fault(self):
        self.assertEqual(last(bolt(10, 5)), [0, 2, 0, 10])

    def test_one_fault_in_the_middle(self):
        self.assertEqual(last(bolt(10, 5, (3, 5))), [0, 2, 0, 3, 2, 5, 5])

    def test_fault_of_one_place(self):
        self.assertEqual(last(bolt(10, 5, (3, 4))), [0, 2, 0, 3, 2, 4, 6])

    def test_fault_at_the_beginning(self):
        self.assertEqual(last(bolt(10, 5, (0, 4))), [0, 2, 4, 6])

    def test_fault_at_the_end(self):
        self.assertEqual(last(bolt(10, 5, (7, 10))), [0, 2, 0, 7])

    def test_fault_over_the_whole(self):
        self.assertEqual(last(bolt(10, 5, (0, 10))), [0])

    def test_faults_that_cover_the_whole_together(self):
        self.assertEqual(last(bolt(10, 5, (4, 10), (0, 5))), [0])

    def test_one_place_left_at_each_end(self):
        self.assertEqual(last(bolt(10, 5, (1, 9))), [0, 2, 0, 1, 2, 9, 1])

    def test_faults_in_any_order(self):
        faults = [(2, 3), (6, 8), (12, 13)]
        wanted = [0, 2, 0, 2, 2, 3, 3, 2, 8, 4, 2, 13, 7]
        for order in itertools.permutations(faults):
            self.assertEqual(last(bolt(20, 5, *order)), wanted)

    def test_faults_side_by_side(self):
        self.assertEqual(last(bolt(10, 5, (2, 4), (4, 6))), [0, 2, 0, 2, 2, 6, 4])
        self.assertEqual(last(bolt(10, 5, (4, 6), (2, 4))), [0, 2, 0, 2, 2, 6, 4])

    def test_faults_over_one_another(self):
        self.assertEqual(last(bolt(10, 5, (2, 6), (4, 8))), [0, 2, 0, 2, 2, 8, 2])
        self.assertEqual(last(bolt(10, 5, (2, 8), (4, 5))), [0, 2, 0, 2, 2, 8, 2])
        self.assertEqual(last(bolt(10, 5, (4, 5), (2, 8))), [0, 2, 0, 2, 2, 8, 2])
        self.assertEqual(last(bolt(10, 5, (4, 5), (4, 5))), [0, 2, 0, 4, 2, 5, 5])

    def test_twenty_faults(self):
        faults = [(place, place + 1) for place in range(20)]
        self.assertEqual(last(bolt(60, 5, *faults)), [0, 2, 20, 40])

    def test_every_two_faults_of_short_bolts(self):
        for length in range(1, 7):
            pairs = list(itertools.combinations(range(length + 1), 2))
            for faults in itertools.product(pairs, repeat=2):
                wanted = [0] + stretches_by_text(length, faults)
                self.assertEqual(last(bolt(length, 1, *faults)), wanted, (length, faults))

    def test_every_bolt_tells_its_own_number_and_stretches(self):
        self.assertEqual(
            asked(bolt(5), bolt(6, 0, (0, 6)), bolt(7, 0, (3, 4)), bolt(8, 0, (0, 1))),
            [[0, 2, 0, 5], [1], [2, 2, 0, 3, 2, 4, 3], [3, 2, 1, 7]],
        )


class NotAsTold(unittest.TestCase):
    def test_length(self):
        self.assertEqual(last(bolt(0)), [-1])
        self.assertEqual(last(bolt(1)), [0, 2, 0, 1])
        self.assertEqual(last(bolt(60)), [0, 2, 0, 60])
        self.assertEqual(last(bolt(61)), [-1])
        self.assertEqual(last(bolt(HUGE)), [-1])

    def test_cost(self):
        self.assertEqual(last(bolt(9, 0)), [0, 2, 0, 9])
        self.assertEqual(last(bolt(9, 10000)), [0, 2, 0, 9])
        self.assertEqual(last(bolt(9, 10001)), [-1])
        self.assertEqual(last(bolt(9, HUGE)), [-1])

    def test_second_place_not_behind_the_first(self):
        for fault in [(0, 0), (3, 3), (4, 3), (9, 9), (8, 0), (HUGE, 3), (HUGE, HUGE)]:
            self.assertEqual(last(bolt(9, 1, fault)), [-1], fault)

    def test_second_place_beyond_the_length(self):
        self.assertEqual(last(bolt(9, 1, (8, 9))), [0, 2, 0, 8])
        for fault in [(8, 10), (0, 10), (9, 10), (0, HUGE), (20, 30)]:
            self.assertEqual(last(bolt(9, 1, fault)), [-1], fault)

    def test_one_wrong_fault_among_right_ones(self):
        for wrong in [(3, 3), (5, 2), (8, 10)]:
            for order in itertools.permutations([(1, 2), (4, 6), wrong]):
                self.assertEqual(last(bolt(9, 1, *order)), [-1], order)

    def test_length_0_with_faults(self):
        self.assertEqual(last(bolt(0, 1, (0, 1))), [-1])
        self.assertEqual(last(bolt(0, 1, (0, 0))), [-1])

    def test_nothing_is_added(self):
        for wrong in [bolt(0), bolt(61), bolt(9, 10001), bolt(9, 1, (3, 3)), bolt(9, 1, (1, 2), (3, 10))]:
            given = asked(bolt(3), wrong, bolt(4), wrong, wrong, bolt(5), bolt(6), bolt(7))
            self.assertEqual(
                given,
                [[0, 2, 0, 3], [-1], [1, 2, 0, 4], [-1], [-1], [2, 2, 0, 5], [3, 2, 0, 6], [-5]],
            )


class TooMany(unittest.TestCase):
    three = bolt(5, 1, (1, 2), (3, 4))
    two = bolt(3, 1, (1, 2))
    none = bolt(3, 1, (0, 3))

    def test_fifth_bolt(self):
        given = asked(*[bolt(5)] * 6)
        self.assertEqual([answer[0] for answer in given], [0, 1, 2, 3, -5, -5])
        self.assertEqual(given[4], [-5])

    def test_fifth_bolt_without_a_stretch(self):
        given = asked(*[self.none] * 5)
        self.assertEqual(given, [[0], [1], [2], [3], [-5]])

    def test_six_stretches_of_one_bolt(self):
        faults = [(1, 2), (3, 4), (5, 6), (7, 8), (9, 10)]
        self.assertEqual(last(bolt(11, 1, *faults)),
                         [0, 2, 0, 1, 2, 2, 1, 2, 4, 1, 2, 6, 1, 2, 8, 1, 2, 10, 1])

    def test_seven_stretches_of_one_bolt(self):
        faults = [(1, 2), (3, 4), (5, 6), (7, 8), (9, 10), (11, 12)]
        self.assertEqual(last(bolt(13, 1, *faults)), [-5])
        self.assertEqual(last(bolt(12, 1, *faults))[0], 0)

    def test_seven_stretches_together(self):
        self.assertEqual(last(self.three, self.three)[0], 1)
        self.assertEqual(last(self.three, self.three, bolt(1)), [-5])
        self.assertEqual(last(self.three, self.two, self.two), [-5])

    def test_a_bolt_without_a_stretch_behind_six(self):
        self.assertEqual(last(self.three, self.three, self.none), [2])

    def test_nothing_is_added(self):
        given = asked(self.three, self.two, self.two, self.three, bolt(4), bolt(4), self.none, bolt(4))
        self.assertEqual([answer[0] for answer in given], [0, 1, -5, -5, 2, -5, 3, -5])
        self.assertEqual(given[2:5], [[-5], [-5], [2, 2, 0, 4]])

    def test_not_as_told_goes_first(self):
        four = [bolt(5)] * 4
        six = [self.three, self.three]
        for wrong in [bolt(0), bolt(61), bolt(5, 10001), bolt(5, 1, (2, 2)), bolt(5, 1, (2, 6))]:
            self.assertEqual(last(*four, wrong), [-1], wrong)
            self.assertEqual(last(*six, wrong), [-1], wrong)
        seven = [(1, 2), (3, 4), (5, 6), (7, 8), (9, 10), (11, 12)]
        self.assertEqual(last(bolt(13, 10001, *seven)), [-1])
        self.assertEqual(last(bolt(13, 1, *seven, (12, 14))), [-1])


class Begins(unittest.TestCase):
    def test_answers_0(self):
        self.assertEqual(asked(BEGINS), [[0]])
        self.assertEqual(asked(BEGINS, BEGINS), [[0], [0]])
        self.assertEqual(last(bolt(5), piece(5), piece(5), BEGINS), [0])

    def test_bolts_begin_at_0_again(self):
        given = asked(*[bolt(5)] * 4, BEGINS, *[bolt(6)] * 5)
        self.assertEqual([answer[0] for answer in given], [0, 1, 2, 3, 0, 0, 1, 2, 3, -5])

    def test_no_stretch_is_left(self):
        six = bolt(11, 1, (1, 2), (3, 4), (5, 6), (7, 8), (9, 10))
        given = asked(six, bolt(1), BEGINS, six, bolt(1))
        self.assertEqual([answer[0] for answer in given], [0, -5, 0, 0, -5])

    def test_pieces_begin_at_0_again(self):
        given = asked(*[piece(5)] * 6, BEGINS, *[piece(5)] * 7)
        self.assertEqual([answer[0] for answer in given], [0, 1, 2, 3, 4, 5, 0, 0, 1, 2, 3, 4, 5, -5])

    def test_no_piece_is_left(self):
        self.assertEqual(last(piece(5), BEGINS, [3, 0]), [-2])


if __name__ == "__main__":
    unittest.main()
