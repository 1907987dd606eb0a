"""stretches: the numbers of the stretches, over all bolts."""

import unittest

from tests.helper import BEGINS, BEST, STRETCHES, bolt, last, pieces


class Stretches(unittest.TestCase):
    def test_nothing_there(self):
        self.assertEqual(last(STRETCHES), [0])
        self.assertEqual(last(*pieces(5, 6), STRETCHES), [0])

    def test_one_bolt(self):
        self.assertEqual(last(bolt(10, 5), STRETCHES), [1, 3, 0, 0, 10])
        self.assertEqual(last(bolt(10, 5, (3, 5)), STRETCHES), [2, 3, 0, 0, 3, 3, 0, 5, 5])

    def test_several_bolts(self):
        self.assertEqual(
            last(bolt(9, 5, (8, 9), (3, 4)), bolt(60), bolt(7, 0, (0, 2)), bolt(6, 1, (1, 5)), STRETCHES),
            [6, 3, 0, 0, 3, 3, 0, 4, 4, 3, 1, 0, 60, 3, 2, 2, 5, 3, 3, 0, 1, 3, 3, 5, 1],
        )

    def test_a_bolt_without_a_sound_place(self):
        self.assertEqual(last(bolt(9, 5, (0, 9)), STRETCHES), [0])
        self.assertEqual(
            last(bolt(5), bolt(9, 5, (0, 9)), bolt(6), STRETCHES),
            [2, 3, 0, 0, 5, 3, 2, 0, 6],
        )

    def test_a_refused_bolt(self):
        for refused in [bolt(0), bolt(9, 10001), bolt(9, 1, (2, 3), (3, 3)), bolt(9, 1, (3, 10))]:
            self.assertEqual(last(refused, STRETCHES), [0])
            self.assertEqual(last(bolt(5), refused, bolt(6), STRETCHES), [2, 3, 0, 0, 5, 3, 1, 0, 6])
        six = bolt(11, 1, (1, 2), (3, 4), (5, 6), (7, 8), (9, 10))
        wanted = [6] + [number for place in range(0, 11, 2) for number in (3, 0, place, 1)]
        self.assertEqual(last(six, STRETCHES), wanted)
        self.assertEqual(last(six, bolt(5), STRETCHES), wanted)

    def test_a_fifth_bolt(self):
        self.assertEqual(
            last(bolt(1), bolt(2), bolt(3), bolt(4), bolt(5), STRETCHES),
            [4, 3, 0, 0, 1, 3, 1, 0, 2, 3, 2, 0, 3, 3, 3, 0, 4],
        )

    def test_after_begins(self):
        self.assertEqual(last(bolt(5), bolt(6, 1, (2, 3)), BEGINS, STRETCHES), [0])
        self.assertEqual(last(bolt(5), bolt(6, 1, (2, 3)), BEGINS, bolt(7), STRETCHES), [1, 3, 0, 0, 7])

    def test_nothing_is_taken_away(self):
        self.assertEqual(last(bolt(9), *pieces(4), BEST, STRETCHES, STRETCHES), [1, 3, 0, 0, 9])


if __name__ == "__main__":
    unittest.main()
