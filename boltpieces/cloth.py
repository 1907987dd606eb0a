"""One bolt of cloth: whether it is as told, and which of its places are sound."""

LONGEST = 60
DEAREST = 10000


def is_length(length):
    """Whether a bolt or a piece may be so long."""
    return 1 <= length <= LONGEST


def fault_pairs(faults):
    """The faults as tuples: the first place, and the place up to which the fault goes."""
    return [(faults[k], faults[k + 1]) for k in range(0, len(faults), 2)]


def is_bolt(length, cost, faults):
    """Whether a bolt may be so long, cost so much and have these faults."""
    if not is_length(length) or cost > DEAREST:
        return False
    return all([first < second <= length for first, second in fault_pairs(faults)])


def sound_places(length, faults):
    """For each place of a bolt that is as told, whether it is sound."""
    sound = [True] * length
    for first, second in fault_pairs(faults):
        for place in range(first, second):
            sound[place] = False
    return sound


def sound_stretches(length, faults):
    """The stretches of a bolt that is as told, as tuples: where one begins, how long it is."""
    stretches = []
    begin = 0
    # The end is taken as one more fault, so that the last stretch is closed like the others.
    for place, sound in enumerate(sound_places(length, faults) + [False]):
        if not sound:
            if begin < place:
                stretches.append((begin, place - begin))
            begin = place + 1
    return stretches
