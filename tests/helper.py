"""Calls written as the interface lays them, answers split call by call, and what they are to be, found the long way."""

import functools

from boltpieces.stock import answers

HUGE = 4294967295

BEGINS = [0]
STRETCHES = [4]
BEST = [5]


def bolt(length, cost=0, *faults):
    """faults: tuples of a first and a second place."""
    row = [place for fault in faults for place in fault]
    return [1, length, cost, len(row)] + row


def piece(length):
    return [2, length]


def pieces(*lengths):
    """Several calls: one for each length."""
    return [piece(length) for length in lengths]


def drop(k):
    return [3, k]


def check(*stretches):
    return [6, len(stretches), *stretches]


def more(length):
    return [7, length]


def joined(calls):
    return [number for call in calls for number in call]


def asked(*calls):
    """What each call answers, as one list each."""
    given = answers(joined(calls))
    split = []
    at = 0
    while at < len(given):
        count = given[at]
        split.append(given[at + 1:at + 1 + count])
        if count < 1 or len(split[-1]) != count:
            raise AssertionError(f"a wrong count at {at} of {given}")
        at += 1 + count
    if len(split) != len(calls):
        raise AssertionError(f"{len(calls)} calls, {len(split)} answers")
    return split


def last(*calls):
    """What the last of the calls answers."""
    return asked(*calls)[-1]


def every_cutting(sizes, lengths):
    """Each cutting as a tuple, the earliest first, looked at one by one."""
    if not lengths:
        yield ()
        return
    for k, size in enumerate(sizes):
        if lengths[0] <= size:
            left = sizes[:k] + (size - lengths[0],) + sizes[k + 1:]
            for others in every_cutting(left, lengths[1:]):
                yield (k,) + others


class Told:
    """What a stock is to answer, as the document tells it.

    bolts: for each bolt its cost and its stretches, each a tuple of where it begins and how long it is.
    """

    def __init__(self):
        self.bolts = ()
        self.pieces = ()

    def answer(self, call):
        names = ["begins", "bolt", "piece", "drop", "stretches", "best", "check", "more"]
        return getattr(self, names[call[0]])(*call[1:])

    def begins(self):
        self.bolts = ()
        self.pieces = ()
        return [0]

    def bolt(self, length, cost, count, *row):
        faults = [row[k:k + 2] for k in range(0, count, 2)]
        if length not in range(1, 61) or cost not in range(10001):
            return [-1]
        if any(second <= first or second > length for first, second in faults):
            return [-1]
        bad = {place for first, second in faults for place in range(first, second)}
        begins = [p for p in range(length) if p not in bad and (p == 0 or p - 1 in bad)]
        ends = [p + 1 for p in range(length) if p not in bad and (p + 1 == length or p + 1 in bad)]
        if len(self.bolts) == 4 or len(all_stretches(self.bolts)) + len(begins) > 6:
            return [-5]
        found = tuple((begin, end - begin) for begin, end in zip(begins, ends))
        self.bolts += ((cost, found),)
        return [len(self.bolts) - 1] + [number for begin, size in found for number in (2, begin, size)]

    def piece(self, length):
        if not 1 <= length <= 60:
            return [-1]
        if len(self.pieces) == 6:
            return [-5]
        self.pieces += (length,)
        return [len(self.pieces) - 1]

    def drop(self, k):
        if k >= len(self.pieces):
            return [-2]
        self.pieces = self.pieces[:k] + self.pieces[k + 1:]
        return [len(self.pieces)]

    def stretches(self):
        found = all_stretches(self.bolts)
        return [len(found)] + [number for stretch in found for number in (3, *stretch)]

    def best(self):
        found = told_best(self.bolts, self.pieces)
        if found is None:
            return [-6]
        cutting, as_good = found
        cost, rest = cost_and_rest(self.bolts, self.pieces, cutting)
        return [cost, 2, rest, as_good] + told_lists(self.bolts, self.pieces, cutting)

    def check(self, count, *cutting):
        found = all_stretches(self.bolts)
        if count != len(self.pieces) or any(k >= len(found) for k in cutting):
            return [-1]
        overfull = [
            k for k in range(len(found))
            if sum(length for length, told in zip(self.pieces, cutting) if told == k) > found[k][2]
        ]
        if overfull:
            return [-6, len(overfull)] + overfull
        cost, rest = cost_and_rest(self.bolts, self.pieces, cutting)
        return [cost, 1, rest] + told_lists(self.bolts, self.pieces, cutting)

    def more(self, length):
        if not 1 <= length <= 60:
            return [-1]
        now = told_best(self.bolts, self.pieces)
        if now is None:
            return [-6]
        lengths = self.pieces + (length,)
        then = told_best(self.bolts, lengths)
        if then is None:
            return [0]
        before = cost_and_rest(self.bolts, self.pieces, now[0])[0]
        return [1, 1, cost_and_rest(self.bolts, lengths, then[0])[0] - before]


def all_stretches(bolts):
    """Each stretch as a tuple: its bolt, where it begins, how long it is."""
    return [(number, begin, size) for number, (cost, found) in enumerate(bolts) for begin, size in found]


def cost_and_rest(bolts, lengths, cutting):
    cost = 0
    rest = 0
    first = 0
    for price, found in bolts:
        numbers = range(first, first + len(found))
        first += len(found)
        if any(k in numbers for k in cutting):
            cost += price
            for k, (begin, size) in zip(numbers, found):
                rest = max(rest, size - sum(length for length, told in zip(lengths, cutting) if told == k))
    return cost, rest


@functools.lru_cache(maxsize=None)
def told_best(bolts, lengths):
    """The earliest of the best cuttings, and how many are as good; None if there is none."""
    sizes = tuple(size for number, begin, size in all_stretches(bolts))
    found = [(cost_and_rest(bolts, lengths, cutting), cutting) for cutting in every_cutting(sizes, lengths)]
    if not found:
        return None
    cost = min(worth[0] for worth, cutting in found)
    rest = max(worth[1] for worth, cutting in found if worth[0] == cost)
    best = [cutting for worth, cutting in found if worth == (cost, rest)]
    return min(best), len(best)


def told_lists(bolts, lengths, cutting):
    """The bolts begun, the pieces' stretches, and the bolt and the place of each piece."""
    found = all_stretches(bolts)
    begun = [number for number in range(len(bolts)) if any(found[k][0] == number for k in cutting)]
    given = [len(begun), *begun, len(cutting), *cutting]
    for number, k in enumerate(cutting):
        before = sum(lengths[other] for other in range(number) if cutting[other] == k)
        given += [2, found[k][0], found[k][1] + before]
    return given


def told(calls):
    """What each call is to answer, as one list each."""
    stock = Told()
    return [stock.answer(call) for call in calls]
