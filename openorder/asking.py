"""Which question is asked best, and how many are enough."""

from openorder.rows import how_many_rows, rows_with_ahead
from openorder.told import open_pairs, tell


def fairest_pair(below):
    """The x and y of the fairest question, or None where nothing is open."""
    rows = how_many_rows(below)
    # Of pairs that are as near to a half, min keeps the first, and they come in the order that is asked for.
    return min(open_pairs(below), key=lambda pair: abs(2 * rows_with_ahead(below, pair[0], pair[1]) - rows),
               default=None)


def questions_with(below, x, y, found):
    """How many questions are always enough when the first is of x and y, whatever is answered."""
    return 1 + max(questions_needed(tell(below, x, y), found), questions_needed(tell(below, y, x), found))


def questions_needed(below, found):
    """How many questions, asked well, are always enough.

    found keeps the answer for each order that was met: many ways of asking lead to the same order.
    """
    told = tuple(below.values())
    if told not in found:
        found[told] = min([questions_with(below, x, y, found) for x, y in open_pairs(below)], default=0)
    return found[told]
