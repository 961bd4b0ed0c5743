"""What comes of some things that are put together, for all parts of the package."""


def pairs_of(things):
    """The ascending list of the pairs of two of these ascending things."""
    return [(low, high) for low in things for high in things if low < high]


def odd_times(things):
    """The ascending tuple of what comes an odd number of times among the things."""
    counts = {}
    for thing in things:
        counts[thing] = counts.get(thing, 0) + 1
    return tuple(sorted([thing for thing, count in counts.items() if count & 1]))


def pairs_below(many):
    """The ascending list of the pairs of two numbers below many."""
    return pairs_of(list(range(many)))
