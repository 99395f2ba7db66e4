"""What lies below which.

A set of things is kept as one whole number, in which each thing has a bit of its own.
What is told is kept as a dict: for each thing, lowest first, the set of all that lie below it.
"""


def bit_of(thing):
    """The set of this thing alone."""
    return 1 << (thing - 1)


def nothing_told(n):
    """What lies below each of n things at the beginning: nothing."""
    below = {}
    for thing in range(1, n + 1):
        below[thing] = 0
    return below


def are_two(below, x, y):
    """Whether x and y are two different things."""
    return x in below and y in below and x != y


def lies_below(below, x, y):
    """Whether x lies below y."""
    return (below[y] & bit_of(x)) != 0


def tell(below, x, y):
    """What lies below each thing when x is told below y, too."""
    gained = below[x] | bit_of(x)
    told = {}
    for thing in below:
        if thing == y or lies_below(below, y, thing):
            told[thing] = below[thing] | gained
        else:
            told[thing] = below[thing]
    return told


def open_pairs(below):
    """Each two things of which neither lies below the other, the lower in number first, in order."""
    found = []
    for x in below:
        for y in below:
            if x < y and not lies_below(below, x, y) and not lies_below(below, y, x):
                found.append((x, y))
    return found


def lies_between(below, x, y):
    """Whether something lies above x and below y."""
    return any([lies_below(below, x, thing) and lies_below(below, thing, y) for thing in below])


def neighbours(below):
    """Each x and y so that x lies below y and nothing lies between, in order."""
    found = []
    for x in below:
        for y in below:
            if lies_below(below, x, y) and not lies_between(below, x, y):
                found.append((x, y))
    return found
