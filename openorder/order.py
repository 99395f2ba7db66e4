"""One order: its things, what is told of them, and the rows that may be.

A set of things is kept as one whole number, in which each thing has a bit of its own.
What is told is kept as a dict: for each thing, lowest first, the set of all that lie below it.
"""

MOST_THINGS = 7


def bit_of(thing):
    """The set of this thing alone."""
    return 1 << (thing - 1)


def nothing_told(n):
    """What lies below each of n things at the beginning: nothing."""
    below = {}
    for thing in range(1, n + 1):
        below[thing] = 0
    return below


def are_two(below, x, y):
    """Whether x and y are two different things."""
    return x in below and y in below and x != y


def lies_below(below, x, y):
    """Whether x lies below y."""
    return (below[y] & bit_of(x)) != 0


def tell(below, x, y):
    """What lies below each thing when x is told below y, too."""
    gained = below[x] | bit_of(x)
    told = {}
    for thing in below:
        if thing == y or lies_below(below, y, thing):
            told[thing] = below[thing] | gained
        else:
            told[thing] = below[thing]
    return told


def may_follow(below, placed, thing):
    """Whether thing may stand right behind the placed ones."""
    return (placed & bit_of(thing)) == 0 and (placed & below[thing]) == below[thing]


def followers(below, placed):
    """The things that may stand right behind the placed ones, lowest in number first."""
    return [thing for thing in below if may_follow(below, placed, thing)]


def ways_behind(below):
    """For each set of placed things, in how many ways the others may stand behind them.

    A set that no row begins with gets a number too; no row leads there, so none is counted by it.
    """
    every = (1 << len(below)) - 1
    ways = [0] * every + [1]
    # A larger set is a larger number, so from the top down each sum finds its parts ready.
    for placed in range(every - 1, -1, -1):
        ways[placed] = sum([ways[placed | bit_of(thing)] for thing in followers(below, placed)])
    return ways


def how_many_rows(below):
    """How many rows may be."""
    return ways_behind(below)[0]


def row_at(below, number):
    """The row of this number, which is lower than how many rows may be."""
    ways = ways_behind(below)
    row = []
    placed = 0
    for place in range(len(below)):
        for thing in followers(below, placed):
            taken = placed | bit_of(thing)
            if number < ways[taken]:
                row.append(thing)
                placed = taken
                break
            number = number - ways[taken]
    return row


def number_of(below, row):
    """The row's number, or None where it is no row that may be."""
    if len(row) != len(below):
        return None
    ways = ways_behind(below)
    number = 0
    placed = 0
    for thing in row:
        standing = followers(below, placed)
        if thing not in standing:
            return None
        number = number + sum([ways[placed | bit_of(other)] for other in standing if other < thing])
        placed = placed | bit_of(thing)
    return number


def rows_with_ahead(below, x, y):
    """In how many rows that may be x stands ahead of y."""
    if lies_below(below, y, x):
        return 0
    # These are just the rows that may be when x is told below y.
    return how_many_rows(tell(below, x, y))


def common_part(a, b):
    """The greatest number that divides both."""
    while b != 0:
        rest = a % b
        a = b
        b = rest
    return a


def fraction(part, whole):
    """part of whole in lowest terms: above and below the line."""
    common = common_part(part, whole)
    return [part // common, whole // common]


class Order:
    """What the calls are about. Each call answers a list of numbers; a refusal is one number below 0."""

    def __init__(self):
        # What lies below each thing, once for nothing told and once more behind each told pair:
        # so the last pair is taken back by dropping the last of these.
        self.history = [nothing_told(1)]

    def below(self):
        """What lies below each thing now."""
        return self.history[len(self.history) - 1]

    def things(self, n):
        if n < 1 or n > MOST_THINGS:
            return [-1]
        self.history = [nothing_told(n)]
        return [0]

    def less(self, x, y):
        below = self.below()
        if not are_two(below, x, y):
            return [-1]
        if lies_below(below, y, x):
            return [-6]
        if lies_below(below, x, y):
            return [-4]
        self.history.append(tell(below, x, y))
        return self.many()

    def undo(self):
        if len(self.history) == 1:
            return [-3]
        self.history.pop()
        return [len(self.history) - 1]

    def many(self):
        return [how_many_rows(self.below())]

    def nth(self, k):
        below = self.below()
        if k >= how_many_rows(below):
            return [-2]
        return row_at(below, k)

    def rank(self, row):
        number = number_of(self.below(), row)
        if number is None:
            return [-3]
        return [number]

    def chance(self, x, y):
        below = self.below()
        if not are_two(below, x, y):
            return [-1]
        return fraction(rows_with_ahead(below, x, y), how_many_rows(below))
