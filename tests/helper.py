"""Calls written as the interface lays them, and answers split call by call."""

from boltpieces.stock import answers

BEGINS = [0]


def bolt(length, cost=0, *faults):
    """faults: tuples of a first and a second place."""
    row = [place for fault in faults for place in fault]
    return [1, length, cost, len(row)] + row


def piece(length):
    return [2, length]


def drop(k):
    return [3, k]


def joined(calls):
    return [number for call in calls for number in call]


def asked(*calls):
    """What each call answers, as one list each."""
    given = answers(joined(calls))
    split = []
    at = 0
    while at < len(given):
        count = given[at]
        split.append(given[at + 1:at + 1 + count])
        if count < 1 or len(split[-1]) != count:
            raise AssertionError(f"a wrong count at {at} of {given}")
        at += 1 + count
    if len(split) != len(calls):
        raise AssertionError(f"{len(calls)} calls, {len(split)} answers")
    return split


def last(*calls):
    """What the last of the calls answers."""
    return asked(*calls)[-1]
