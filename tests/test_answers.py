"""The interface: several calls in one list, and what is handed in and given back."""

import random
import unittest

from boltpieces.stock import answers
from tests.helper import BEGINS, asked, bolt, drop, joined, piece


def some_calls(seed):
    """40 calls in some order, right ones and wrong ones."""
    source = random.Random(seed)
    calls = []
    for turn in range(40):
        kind = source.randrange(20)
        if kind == 0:
            calls.append(BEGINS)
        elif kind < 8:
            faults = [(source.randrange(12), source.randrange(14)) for fault in range(source.randrange(3))]
            calls.append(bolt(source.randrange(10, 64), source.randrange(10100), *faults))
        elif kind < 15:
            calls.append(piece(source.randrange(64)))
        else:
            calls.append(drop(source.randrange(7)))
    return calls


def told_bolt(length, cost, row, bolts):
    """What bolt is to answer, as the document tells it, place by place."""
    faults = [tuple(row[k:k + 2]) for k in range(0, len(row), 2)]
    if length not in range(1, 61) or cost not in range(10001):
        return [-1]
    if any(second <= first or second > length for first, second in faults):
        return [-1]
    bad = {place for first, second in faults for place in range(first, second)}
    begins = [p for p in range(length) if p not in bad and (p == 0 or p - 1 in bad)]
    ends = [p + 1 for p in range(length) if p not in bad and (p + 1 == length or p + 1 in bad)]
    if len(bolts) == 4 or sum(bolts) + len(begins) > 6:
        return [-5]
    bolts.append(len(begins))
    answer = [len(bolts) - 1]
    for begin, end in zip(begins, ends):
        answer += [2, begin, end - begin]
    return answer


def told_piece(length, count):
    if not 1 <= length <= 60:
        return -1
    return -5 if count == 6 else count


def told(calls):
    """What the calls are to answer: the stretches of each bolt and the pieces are only counted."""
    given = []
    bolts = []
    pieces = 0
    for call in calls:
        if call[0] == 0:
            bolts = []
            pieces = 0
            given.append([0])
        elif call[0] == 1:
            given.append(told_bolt(call[1], call[2], call[4:], bolts))
        elif call[0] == 2:
            answer = told_piece(call[1], pieces)
            if answer >= 0:
                pieces += 1
            given.append([answer])
        elif call[1] < pieces:
            pieces -= 1
            given.append([pieces])
        else:
            given.append([-2])
    return given


class Answers(unittest.TestCase):
    def test_one_call(self):
        self.assertEqual(answers([0]), [1, 0])
        self.assertEqual(answers([1, 10, 5, 0]), [4, 0, 2, 0, 10])
        self.assertEqual(answers([1, 10, 5, 2, 3, 5]), [7, 0, 2, 0, 3, 2, 5, 5])
        self.assertEqual(answers([1, 10, 5, 2, 0, 10]), [1, 0])
        self.assertEqual(answers([1, 0, 5, 0]), [1, -1])
        self.assertEqual(answers([2, 10]), [1, 0])
        self.assertEqual(answers([2, 0]), [1, -1])
        self.assertEqual(answers([3, 0]), [1, -2])

    def test_several_calls(self):
        calls = [2, 7, 1, 20, 100, 4, 12, 13, 5, 6, 2, 8, 3, 0, 3, 1, 1, 9, 0, 2, 4, 4, 2, 9, 0, 2, 9]
        self.assertEqual(
            answers(calls),
            [1, 0, 10, 0, 2, 0, 5, 2, 6, 6, 2, 13, 7, 1, 1, 1, 1, 1, -2, 1, -1, 1, 1, 1, 0, 1, 0],
        )

    def test_a_refused_bolt_is_read_to_its_end(self):
        self.assertEqual(answers([1, 0, 0, 4, 0, 0, 2, 2, 2, 5]), [1, -1, 1, 0])
        self.assertEqual(answers([1, 61, 0, 2, 3, 0, 2, 5]), [1, -1, 1, 0])

    def test_forty_calls(self):
        self.assertEqual(answers([2, 5, 3, 0] * 20), [1, 0, 1, 0] * 20)
        self.assertEqual(answers([0] * 40), [1, 0] * 40)
        faults = [(place, place + 1) for place in range(20)]
        self.assertEqual(
            asked(*[bolt(60, 10000, *faults)] * 40),
            [[number, 2, 20, 40] for number in range(4)] + [[-5]] * 36,
        )

    def test_many_lists_of_forty_calls(self):
        for seed in range(500):
            calls = some_calls(seed)
            self.assertEqual(asked(*calls), told(calls), seed)

    def test_whole_numbers_in_a_list(self):
        for seed in range(20):
            given = answers(joined(some_calls(seed)))
            self.assertIs(type(given), list)
            self.assertEqual({type(number) for number in given}, {int})

    def test_what_is_handed_in_stays(self):
        for seed in range(20):
            calls = joined(some_calls(seed))
            before = list(calls)
            answers(calls)
            self.assertEqual(calls, before)

    def test_a_second_time_answers_the_same(self):
        for seed in range(20):
            calls = joined(some_calls(seed))
            first = answers(calls)
            answers([1, 5, 5, 0, 2, 5])
            self.assertEqual(answers(calls), first)

    def test_what_is_given_back_is_the_callers_own(self):
        calls = [1, 10, 5, 0, 2, 5]
        first = answers(calls)
        first.clear()
        self.assertEqual(answers(calls), [4, 0, 2, 0, 10, 1, 0])


if __name__ == "__main__":
    unittest.main()
