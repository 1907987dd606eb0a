"""A stock of bolts and wanted pieces, and the calls on it."""

from boltpieces.cloth import is_bolt, is_length, sound_stretches
from boltpieces.cutting import beginnings, begun_bolts, best_cutting, cost_of, rest_of, what_is_left
from boltpieces.price import least_cost

BEGINS = 0
BOLT = 1
PIECE = 2
DROP = 3
STRETCHES = 4
BEST = 5
CHECK = 6

# By a call's number: how many whole numbers it has, without its row.
WHOLE_NUMBERS = (0, 2, 1, 1, 0, 0, 0, 1)
WITH_ROW = (BOLT, CHECK)

NOT_AS_TOLD = -1
NOT_THERE = -2
TOO_MANY = -5
NO_CUTTING = -6

MOST_BOLTS = 4
MOST_STRETCHES = 6
MOST_PIECES = 6


class Stock:
    """Each method is a call: it gives back the numbers that are answered."""

    def __init__(self):
        # What each bolt costs, and how long each piece is.
        self.costs = []
        self.pieces = []
        # Each stretch as a tuple: its bolt, where it begins, how long it is.
        self.stretches_there = []

    def begins(self):
        self.costs.clear()
        self.pieces.clear()
        self.stretches_there.clear()
        return [0]

    def bolt(self, length, cost, faults):
        if not is_bolt(length, cost, faults):
            return [NOT_AS_TOLD]
        found = sound_stretches(length, faults)
        if len(self.costs) == MOST_BOLTS or len(self.stretches_there) + len(found) > MOST_STRETCHES:
            return [TOO_MANY]
        number = len(self.costs)
        self.costs.append(cost)
        answer = [number]
        for begin, size in found:
            self.stretches_there.append((number, begin, size))
            answer.extend(counted([begin, size]))
        return answer

    def piece(self, length):
        if not is_length(length):
            return [NOT_AS_TOLD]
        if len(self.pieces) == MOST_PIECES:
            return [TOO_MANY]
        self.pieces.append(length)
        return [len(self.pieces) - 1]

    def drop(self, k):
        if k >= len(self.pieces):
            return [NOT_THERE]
        self.pieces.pop(k)
        return [len(self.pieces)]

    def stretches(self):
        answer = [len(self.stretches_there)]
        for stretch in self.stretches_there:
            answer.extend(counted(list(stretch)))
        return answer

    def best(self):
        found = best_cutting(self.costs, self.stretches_there, self.pieces)
        if found is None:
            return [NO_CUTTING]
        return told_cutting(self, found[0], [found[1]])

    def check(self, cutting):
        if len(cutting) != len(self.pieces) or not all([k < len(self.stretches_there) for k in cutting]):
            return [NOT_AS_TOLD]
        left = what_is_left(self.stretches_there, self.pieces, cutting)
        overfull = [k for k, rest in enumerate(left) if rest < 0]
        if len(overfull) > 0:
            return [NO_CUTTING] + counted(overfull)
        return told_cutting(self, cutting, [])

    def more(self, length):
        if not is_length(length):
            return [NOT_AS_TOLD]
        now = least_cost(self.costs, self.stretches_there, self.pieces)
        if now is None:
            return [NO_CUTTING]
        then = least_cost(self.costs, self.stretches_there, self.pieces + [length])
        if then is None:
            return [0]
        return [1] + counted([then - now])


def counted(numbers):
    """The numbers, and before them how many they are."""
    return [len(numbers)] + numbers


def told_cutting(stock, cutting, behind_rest):
    """The answer that tells a cutting: its cost, then its lists; behind_rest stands in the first one."""
    stretches = stock.stretches_there
    begun = begun_bolts(stretches, cutting)
    rest = rest_of(stretches, what_is_left(stretches, stock.pieces, cutting), begun)
    answer = [cost_of(stock.costs, begun)]
    for numbers in [[rest] + behind_rest, begun, cutting] + beginnings(stretches, stock.pieces, cutting):
        answer.extend(counted(numbers))
    return answer


def call_end(calls, at):
    """The place behind the call that begins at this one."""
    number = calls[at]
    end = at + 1 + WHOLE_NUMBERS[number]
    if number in WITH_ROW:
        end = end + 1 + calls[end]
    return end


def answer_call(stock, call):
    """What one call, cut out of the list of calls, answers."""
    if call[0] == BEGINS:
        return stock.begins()
    if call[0] == BOLT:
        return stock.bolt(call[1], call[2], call[4:])
    if call[0] == PIECE:
        return stock.piece(call[1])
    if call[0] == DROP:
        return stock.drop(call[1])
    if call[0] == STRETCHES:
        return stock.stretches()
    if call[0] == BEST:
        return stock.best()
    if call[0] == CHECK:
        return stock.check(call[2:])
    return stock.more(call[1])


def answers(calls):
    """What the calls on a new stock answer, each with how many numbers these are before it."""
    stock = Stock()
    given = []
    at = 0
    while at < len(calls):
        end = call_end(calls, at)
        given.extend(counted(answer_call(stock, calls[at:end])))
        at = end
    return given
