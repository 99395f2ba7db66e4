"""The rows that may be: how many there are, which they are, and how many have something so.

Rows are not listed but counted, by which set of things stands first.
"""

from openorder.told import bit_of, lies_below, tell


def may_follow(below, placed, thing):
    """Whether thing may stand right behind the placed ones."""
    return (placed & bit_of(thing)) == 0 and (placed & below[thing]) == below[thing]


def followers(below, placed):
    """The things that may stand right behind the placed ones, lowest in number first."""
    return [thing for thing in below if may_follow(below, placed, thing)]


def ways_behind(below):
    """For each set of placed things, in how many ways the others may stand behind them.

    A set that no row begins with gets a number too; no row leads there, so none is counted by it.
    """
    every = (1 << len(below)) - 1
    ways = [0] * every + [1]
    # A larger set is a larger number, so from the top down each sum finds its parts ready.
    for placed in range(every - 1, -1, -1):
        ways[placed] = sum([ways[placed | bit_of(thing)] for thing in followers(below, placed)])
    return ways


def ways_ahead(below):
    """For each set of things, in how many ways they may stand first: 0 where no row begins with them."""
    every = (1 << len(below)) - 1
    ways = [1] + [0] * every
    # From the bottom up, for the same reason: a set's number is whole before it is handed on.
    for placed in range(every):
        for thing in followers(below, placed):
            taken = placed | bit_of(thing)
            ways[taken] = ways[taken] + ways[placed]
    return ways


def how_many_rows(below):
    """How many rows may be."""
    return ways_behind(below)[0]


def row_at(below, number):
    """The row of this number, which is lower than how many rows may be."""
    ways = ways_behind(below)
    row = []
    placed = 0
    for place in range(len(below)):
        for thing in followers(below, placed):
            taken = placed | bit_of(thing)
            if number < ways[taken]:
                row.append(thing)
                placed = taken
                break
            number = number - ways[taken]
    return row


def number_of(below, row):
    """The row's number, or None where it is no row that may be."""
    if len(row) != len(below):
        return None
    ways = ways_behind(below)
    number = 0
    placed = 0
    for thing in row:
        standing = followers(below, placed)
        if thing not in standing:
            return None
        number = number + sum([ways[placed | bit_of(other)] for other in standing if other < thing])
        placed = placed | bit_of(thing)
    return number


def rows_with_ahead(below, x, y):
    """In how many rows that may be x stands ahead of y."""
    if lies_below(below, y, x):
        return 0
    # These are just the rows that may be when x is told below y.
    return how_many_rows(tell(below, x, y))


def rows_with_both(below, x, y, z):
    """In how many rows that may be x stands ahead of y and of z."""
    if lies_below(below, y, x):
        return 0
    return rows_with_ahead(tell(below, x, y), x, z)


def how_many_things(below, placed):
    """How many things are in the set of placed ones."""
    return len([thing for thing in below if (placed & bit_of(thing)) != 0])


def rows_by_place(below, thing):
    """In how many rows that may be the thing stands in place 1, 2, and so on."""
    ahead = ways_ahead(below)
    behind = ways_behind(below)
    rows = [0] * len(below)
    for placed, ways in enumerate(ahead):
        if may_follow(below, placed, thing):
            others = how_many_things(below, placed)
            rows[others] = rows[others] + ways * behind[placed | bit_of(thing)]
    return rows


def sum_of_places(rows):
    """The sum of a thing's places in all rows that may be, from in how many of them it stands in each place."""
    return sum([place * often for place, often in enumerate(rows, start=1)])
