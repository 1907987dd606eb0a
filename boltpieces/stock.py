"""A stock of bolts and wanted pieces, and the calls on it."""

from boltpieces.cloth import is_bolt, is_length, sound_stretches

BEGINS = 0
BOLT = 1
PIECE = 2
DROP = 3

# By a call's number: how many whole numbers it has, without its row.
WHOLE_NUMBERS = (0, 2, 1, 1)

NOT_AS_TOLD = -1
NOT_THERE = -2
TOO_MANY = -5

MOST_BOLTS = 4
MOST_STRETCHES = 6
MOST_PIECES = 6


class Stock:
    """Each method is a call: it gives back the numbers that are answered."""

    def __init__(self):
        # What each bolt costs, and how long each piece is.
        self.costs = []
        self.pieces = []
        # Each stretch as a tuple: its bolt, where it begins, how long it is.
        self.stretches_there = []

    def begins(self):
        self.costs.clear()
        self.pieces.clear()
        self.stretches_there.clear()
        return [0]

    def bolt(self, length, cost, faults):
        if not is_bolt(length, cost, faults):
            return [NOT_AS_TOLD]
        found = sound_stretches(length, faults)
        if len(self.costs) == MOST_BOLTS or len(self.stretches_there) + len(found) > MOST_STRETCHES:
            return [TOO_MANY]
        number = len(self.costs)
        self.costs.append(cost)
        answer = [number]
        for begin, size in found:
            self.stretches_there.append((number, begin, size))
            answer.extend(counted([begin, size]))
        return answer

    def piece(self, length):
        if not is_length(length):
            return [NOT_AS_TOLD]
        if len(self.pieces) == MOST_PIECES:
            return [TOO_MANY]
        self.pieces.append(length)
        return [len(self.pieces) - 1]

    def drop(self, k):
        if k >= len(self.pieces):
            return [NOT_THERE]
        self.pieces.pop(k)
        return [len(self.pieces)]


def counted(numbers):
    """The numbers, and before them how many they are."""
    return [len(numbers)] + numbers


def call_end(calls, at):
    """The place behind the call that begins at this one."""
    number = calls[at]
    if number > DROP:
        raise NotImplementedError(f"call {number} is not there yet")
    end = at + 1 + WHOLE_NUMBERS[number]
    if number == BOLT:
        end = end + 1 + calls[end]
    return end


def answer_call(stock, call):
    """What one call, cut out of the list of calls, answers."""
    if call[0] == BEGINS:
        return stock.begins()
    if call[0] == BOLT:
        return stock.bolt(call[1], call[2], call[4:])
    if call[0] == PIECE:
        return stock.piece(call[1])
    return stock.drop(call[1])


def answers(calls):
    """What the calls on a new stock answer, each with how many numbers these are before it."""
    stock = Stock()
    given = []
    at = 0
    while at < len(calls):
        end = call_end(calls, at)
        given.extend(counted(answer_call(stock, calls[at:end])))
        at = end
    return given
