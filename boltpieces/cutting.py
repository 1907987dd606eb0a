"""Cuttings: for each piece the number of the stretch that it is cut from.

A stretch is a tuple: its bolt, where it begins, how long it is.
"""


def what_is_left(stretches, pieces, cutting):
    """What is left of each stretch: below 0 where more is told for it than it has."""
    left = [size for bolt, begin, size in stretches]
    for length, k in zip(pieces, cutting):
        left[k] = left[k] - length
    return left


def begun_bolts(stretches, cutting):
    """The bolts that pieces are cut from, rising."""
    return sorted(set([stretches[k][0] for k in cutting]))


def cost_of(costs, begun):
    """What the begun bolts cost together."""
    return sum([costs[bolt] for bolt in begun])


def rest_of(stretches, left, begun):
    """The longest that is left of a stretch of a begun bolt."""
    return max([rest for stretch, rest in zip(stretches, left) if stretch[0] in begun], default=0)


def beginnings(stretches, pieces, cutting):
    """For each piece a list: its bolt, the place where it begins."""
    free = [begin for bolt, begin, size in stretches]
    places = []
    for length, k in zip(pieces, cutting):
        places.append([stretches[k][0], free[k]])
        free[k] = free[k] + length
    return places


def ways_with(ways, length):
    """The ways to leave the stretches, as the function below tells them, once one piece more is cut."""
    longer = {}
    for left, way in ways.items():
        for k, size in enumerate(left):
            if length <= size:
                after = left[:k] + (size - length,) + left[k + 1:]
                # Earlier cuttings are lengthened first, and by the lower stretches first:
                # the first one that comes to what it leaves is the earliest.
                if after in longer:
                    known = longer[after]
                    longer[after] = (known[0], known[1] + way[1])
                else:
                    longer[after] = (way[0] + [k], way[1])
    return longer


def ways_to_leave(stretches, pieces):
    """By what is left of each stretch a tuple: the earliest cutting that leaves this, how many there are.

    They stand in the order of these cuttings, the earliest first. Many cuttings leave the same, and
    what they cost and their rest follow from it: so they need not be looked at one by one.
    """
    ways = {tuple([size for bolt, begin, size in stretches]): ([], 1)}
    for length in pieces:
        ways = ways_with(ways, length)
    return ways


def best_cutting(costs, stretches, pieces):
    """The earliest of the best cuttings, and how many are as good, as a tuple: None if there is none."""
    best = None
    best_worth = None
    as_good = 0
    for left, way in ways_to_leave(stretches, pieces).items():
        begun = begun_bolts(stretches, way[0])
        worth = (-cost_of(costs, begun), rest_of(stretches, left, begun))
        if best is None or worth > best_worth:
            best = way[0]
            best_worth = worth
            as_good = way[1]
        elif worth == best_worth:
            as_good = as_good + way[1]
    return None if best is None else (best, as_good)
