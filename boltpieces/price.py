"""What it costs at least to cut some pieces, found without the cutting itself.

A part of the pieces is told by a number: its bit k is set if piece k belongs to the part.
"""

# More than all bolts can cost together.
NEVER = 1000000


def lengths_together(pieces):
    """For each part of the pieces how long it is together."""
    together = [0]
    for length in pieces:
        together = together + [others + length for others in together]
    return together


def parts_within(part):
    """Each part of a part, from itself down to none."""
    parts = [part]
    while parts[-1] > 0:
        parts.append((parts[-1] - 1) & part)
    return parts


def cheapest_with(least, together, size, part):
    """What a part costs at least if what fits on one stretch more of a begun bolt costs nothing."""
    return min([least[part - taken] for taken in parts_within(part) if together[taken] <= size])


def least_cost(costs, stretches, pieces):
    """What the best cutting costs: None if there is none."""
    together = lengths_together(pieces)
    least = [0] + [NEVER] * (len(together) - 1)
    for bolt, cost in enumerate(costs):
        begun = [before + cost for before in least]
        for owner, begin, size in stretches:
            if owner == bolt:
                begun = [cheapest_with(begun, together, size, part) for part in range(len(begun))]
        least = [min(without, including) for without, including in zip(least, begun)]
    return least[-1] if least[-1] < NEVER else None
