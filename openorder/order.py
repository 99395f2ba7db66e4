"""One order: its things, what is told of them, and what each call answers."""

from openorder.asking import fairest_pair, questions_needed
from openorder.rows import how_many_rows, number_of, row_at, rows_by_place, rows_with_ahead, rows_with_both
from openorder.rows import sum_of_places
from openorder.told import are_two, lies_below, neighbours, nothing_told, tell

MOST_THINGS = 7
MOST_THINGS_FOR_FEWEST = 4


def common_part(a, b):
    """The greatest number that divides both."""
    while b != 0:
        rest = a % b
        a = b
        b = rest
    return a


def fraction(part, whole):
    """part of whole in lowest terms: above and below the line."""
    common = common_part(part, whole)
    return [part // common, whole // common]


class Order:
    """What the calls are about. Each call answers a list of numbers; a refusal is one number below 0."""

    def __init__(self):
        # What lies below each thing, once for nothing told and once more behind each told pair:
        # so the last pair is taken back by dropping the last of these.
        self.history = [nothing_told(1)]

    def below(self):
        """What lies below each thing now."""
        return self.history[len(self.history) - 1]

    def things(self, n):
        if n < 1 or n > MOST_THINGS:
            return [-1]
        self.history = [nothing_told(n)]
        return [0]

    def less(self, x, y):
        below = self.below()
        if not are_two(below, x, y):
            return [-1]
        if lies_below(below, y, x):
            return [-6]
        if lies_below(below, x, y):
            return [-4]
        self.history.append(tell(below, x, y))
        return self.many()

    def undo(self):
        if len(self.history) == 1:
            return [-3]
        self.history.pop()
        return [len(self.history) - 1]

    def many(self):
        return [how_many_rows(self.below())]

    def nth(self, k):
        below = self.below()
        if k >= how_many_rows(below):
            return [-2]
        return row_at(below, k)

    def rank(self, row):
        number = number_of(self.below(), row)
        if number is None:
            return [-3]
        return [number]

    def chance(self, x, y):
        below = self.below()
        if not are_two(below, x, y):
            return [-1]
        return fraction(rows_with_ahead(below, x, y), how_many_rows(below))

    def both(self, x, y, z):
        below = self.below()
        if not are_two(below, x, y) or not are_two(below, x, z):
            return [-1]
        return fraction(rows_with_both(below, x, y, z), how_many_rows(below))

    def spread(self, x):
        below = self.below()
        if x not in below:
            return [-1]
        rows = rows_by_place(below, x)
        return rows + fraction(sum_of_places(rows), sum(rows))

    def fairest(self):
        below = self.below()
        pair = fairest_pair(below)
        if pair is None:
            return [-3]
        return list(pair) + self.chance(pair[0], pair[1])

    def fewest(self):
        below = self.below()
        if len(below) > MOST_THINGS_FOR_FEWEST:
            return [-5]
        return [questions_needed(below, {})]

    def next_pairs(self):
        pairs = neighbours(self.below())
        given = [len(pairs)]
        for pair in pairs:
            given.extend(pair)
        return given

    def likely(self):
        below = self.below()
        rows = how_many_rows(below)
        given = []
        # All averages have the same number of rows below the line, so the sums stand in their order.
        for places, thing in sorted([(sum_of_places(rows_by_place(below, thing)), thing) for thing in below]):
            given.append(thing)
            given.extend(fraction(places, rows))
        return given

    def is_below(self, x, y):
        below = self.below()
        if x not in below or y not in below:
            return [-1]
        if lies_below(below, x, y):
            return [1]
        if lies_below(below, y, x):
            return [2]
        return [0]
