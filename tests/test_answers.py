"""The interface: several calls in one list, and what is handed in and given back."""

import random
import time
import unittest

from boltpieces.stock import answers
from tests.helper import (
    BEGINS, BEST, STRETCHES, Told, asked, bolt, check, drop, joined, last, more, piece, pieces, told,
)


def some_bolt(source):
    """Short and cheap ones for the most part, so that many cuttings are as good."""
    if source.randrange(4) == 0:
        faults = [(source.randrange(12), source.randrange(14)) for fault in range(source.randrange(3))]
        return bolt(source.randrange(10, 64), source.randrange(10100), *faults)
    length = source.randrange(1, 14)
    faults = [(place, place + 1) for place in range(length) if source.randrange(6) == 0]
    return bolt(length, source.randrange(3), *faults)


def some_check(source, count, stretches):
    """Now and then a stretch too few or too many, or one that there isn't."""
    if source.randrange(8) == 0:
        count = source.randrange(7)
    if source.randrange(8) == 0:
        stretches += 1
    return check(*[source.randrange(max(stretches, 1)) for k in range(count)])


def some_calls(seed):
    """40 calls of all kinds in some order, right ones and wrong ones, at most 10 of them best and more."""
    source = random.Random(seed)
    calls = []
    stock = Told()
    searches = 0
    while len(calls) < 40:
        kind = source.choice([0] + [1] * 8 + [2] * 10 + [3] * 5 + [4] * 2 + [5] * 5 + [6] * 8 + [7] * 5)
        if kind in (5, 7):
            searches += 1
            if searches > 10:
                continue
        calls.append([
            lambda: BEGINS,
            lambda: some_bolt(source),
            lambda: piece(source.choice([0, 1, 1, 2, 2, 3, 4, 5, 6, 8, 61])),
            lambda: drop(source.randrange(7)),
            lambda: STRETCHES,
            lambda: BEST,
            lambda: some_check(source, len(stock.pieces), sum(len(found) for cost, found in stock.bolts)),
            lambda: more(source.choice([0, 1, 2, 3, 4, 5, 6, 9, 61])),
        ][kind]())
        if kind < 4:
            stock.answer(calls[-1])
    return calls


def full_stock(costs, lengths):
    """6 stretches on 4 bolts, as long as can be, and pieces of these lengths."""
    faults = [[], [], [(29, 30)], [(29, 30)]]
    return [bolt(60, cost, *found) for cost, found in zip(costs, faults)] + pieces(*lengths)


class Answers(unittest.TestCase):
    def test_one_call(self):
        self.assertEqual(answers([0]), [1, 0])
        self.assertEqual(answers([1, 10, 5, 0]), [4, 0, 2, 0, 10])
        self.assertEqual(answers([1, 10, 5, 2, 3, 5]), [7, 0, 2, 0, 3, 2, 5, 5])
        self.assertEqual(answers([1, 10, 5, 2, 0, 10]), [1, 0])
        self.assertEqual(answers([1, 0, 5, 0]), [1, -1])
        self.assertEqual(answers([2, 10]), [1, 0])
        self.assertEqual(answers([2, 0]), [1, -1])
        self.assertEqual(answers([3, 0]), [1, -2])
        self.assertEqual(answers([4]), [1, 0])
        self.assertEqual(answers([5]), [6, 0, 2, 0, 1, 0, 0])
        self.assertEqual(answers([6, 0]), [5, 0, 1, 0, 0, 0])
        self.assertEqual(answers([6, 1, 0]), [1, -1])
        self.assertEqual(answers([7, 5]), [1, 0])
        self.assertEqual(answers([7, 0]), [1, -1])

    def test_calls_of_all_kinds(self):
        calls = [0, 1, 10, 5, 2, 4, 6, 2, 3, 2, 4, 4, 5, 6, 2, 1, 0, 6, 2, 0, 0, 6, 1, 0, 7, 1, 7, 2, 3, 0, 5]
        self.assertEqual(
            answers(calls),
            [1, 0]
            + [7, 0, 2, 0, 4, 2, 6, 4]
            + [1, 0, 1, 1]
            + [9, 2, 3, 0, 0, 4, 3, 0, 6, 4]
            + [15, 5, 2, 1, 2, 1, 0, 2, 0, 1, 2, 0, 0, 2, 0, 6]
            + [14, 5, 1, 1, 1, 0, 2, 1, 0, 2, 0, 6, 2, 0, 0]
            + [3, -6, 1, 0]
            + [1, -1]
            + [3, 1, 1, 0, 1, 0]
            + [1, 1]
            + [11, 5, 2, 4, 2, 1, 0, 1, 0, 2, 0, 0],
        )

    def test_several_calls(self):
        calls = [2, 7, 1, 20, 100, 4, 12, 13, 5, 6, 2, 8, 3, 0, 3, 1, 1, 9, 0, 2, 4, 4, 2, 9, 0, 2, 9]
        self.assertEqual(
            answers(calls),
            [1, 0, 10, 0, 2, 0, 5, 2, 6, 6, 2, 13, 7, 1, 1, 1, 1, 1, -2, 1, -1, 1, 1, 1, 0, 1, 0],
        )

    def test_a_refused_bolt_is_read_to_its_end(self):
        self.assertEqual(answers([1, 0, 0, 4, 0, 0, 2, 2, 2, 5]), [1, -1, 1, 0])
        self.assertEqual(answers([1, 61, 0, 2, 3, 0, 2, 5]), [1, -1, 1, 0])

    def test_forty_calls(self):
        self.assertEqual(answers([2, 5, 3, 0] * 20), [1, 0, 1, 0] * 20)
        self.assertEqual(answers([0] * 40), [1, 0] * 40)
        faults = [(place, place + 1) for place in range(20)]
        self.assertEqual(
            asked(*[bolt(60, 10000, *faults)] * 40),
            [[number, 2, 20, 40] for number in range(4)] + [[-5]] * 36,
        )

    def test_many_lists_of_forty_calls(self):
        for seed in range(400):
            calls = some_calls(seed)
            self.assertEqual(asked(*calls), told(calls), seed)

    def test_ten_searches_at_six_stretches_and_six_pieces(self):
        calls = full_stock([5, 3, 2, 2], [3, 5, 6, 7, 9, 11])
        calls += [STRETCHES, check(0, 1, 2, 3, 4, 5), check(5, 5, 5, 5, 5, 5), check(0, 0, 0, 0, 0, 6)]
        calls += [BEST, more(60), BEST, more(29), BEST, more(46), BEST, more(60), more(0), BEST]
        calls += [piece(7), drop(0), drop(0), check(1, 1, 1, 1), STRETCHES, BEGINS, STRETCHES]
        self.assertLessEqual(len(calls), 40)
        self.assertEqual(asked(*calls), told(calls))

    def test_full_stocks_of_many_kinds(self):
        source = random.Random(1)
        for turn in range(12):
            costs = [source.choice([0, 1, 2, 3, 10000]) for number in range(4)]
            lengths = [source.randrange(18, 31) for number in range(6)]
            calls = full_stock(costs, lengths) + [BEST] + [more(source.randrange(1, 61)) for number in range(9)]
            self.assertEqual(asked(*calls), told(calls), calls)

    def test_it_can_be_waited_for(self):
        # Nothing is cheaper than another, everything fits everywhere, and hardly two cuttings leave the same.
        calls = full_stock([0, 0, 0, 0], [3, 5, 6, 7, 9, 11])
        begin = time.perf_counter()
        searches = asked(*calls, *[BEST] * 10)[10:]
        self.assertEqual(searches, [last(*calls, BEST)] * 10)
        self.assertEqual(asked(*calls, *[more(1)] * 10)[10:], [[1, 1, 0]] * 10)
        self.assertLess(time.perf_counter() - begin, 60)

    def test_whole_numbers_in_a_list(self):
        for seed in range(20):
            given = answers(joined(some_calls(seed)))
            self.assertIs(type(given), list)
            self.assertEqual({type(number) for number in given}, {int})

    def test_what_is_handed_in_stays(self):
        for seed in range(20):
            calls = joined(some_calls(seed))
            before = list(calls)
            answers(calls)
            self.assertEqual(calls, before)

    def test_a_second_time_answers_the_same(self):
        for seed in range(20):
            calls = joined(some_calls(seed))
            first = answers(calls)
            answers([1, 5, 5, 0, 2, 5])
            self.assertEqual(answers(calls), first)

    def test_what_is_given_back_is_the_callers_own(self):
        calls = [1, 10, 5, 0, 2, 5]
        first = answers(calls)
        first.clear()
        self.assertEqual(answers(calls), [4, 0, 2, 0, 10, 1, 0])


if __name__ == "__main__":
    unittest.main()
