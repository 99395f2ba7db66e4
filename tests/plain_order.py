"""A second, slow and plain way to tell what the calls answer, and helpers to hand calls in."""

import random
from fractions import Fraction
from functools import lru_cache
from itertools import combinations, permutations

from openorder.questions import answers

NUMBERS = {"things": 0, "less": 1, "undo": 2, "many": 3, "nth": 4, "rank": 5, "chance": 6, "both": 7, "spread": 8,
           "fairest": 9, "fewest": 10, "next_pairs": 11, "likely": 12, "is_below": 13}
MOST_CALLS = 30
LARGEST = 4294967295


def flat(calls):
    """The list that is handed in for calls such as ("less", 1, 2) or ("rank", [2, 1])."""
    numbers = []
    for name, *rest in calls:
        numbers.append(NUMBERS[name])
        for value in rest:
            if isinstance(value, list):
                numbers.append(len(value))
                numbers.extend(value)
            else:
                numbers.append(value)
    return numbers


def parted(given):
    """A list of answers, each a list, from what is given back."""
    parts = []
    place = 0
    while place < len(given):
        end = place + 1 + given[place]
        assert place + 1 < end <= len(given), "an answer is empty or cut off"
        parts.append(given[place + 1:end])
        place = end
    return parts


def ask(*calls):
    """Each call's answer, of one list of calls, which stays as it was and is answered the same again."""
    assert 1 <= len(calls) <= MOST_CALLS
    numbers = flat(calls)
    given = answers(numbers)
    assert numbers == flat(calls), "what was handed in is changed"
    assert answers(numbers) == given, "a second time answers otherwise"
    parts = parted(given)
    assert len(parts) == len(calls), "not one answer a call"
    return parts


def ask_behind(setting, questions):
    """Each question's answer, asked behind the calls of setting, in as many lists as it takes."""
    room = MOST_CALLS - len(setting)
    found = []
    for start in range(0, len(questions), room):
        found.extend(ask(*setting, *questions[start:start + room])[len(setting):])
    return found


def told_as(part):
    """A fraction's upper number and its lower one."""
    return [part.numerator, part.denominator]


@lru_cache(maxsize=64)
def rows_of(n, lying):
    """The rows that may be, in order, of n things, from all pairs of which the first lies below the second."""
    return [list(row) for row in permutations(range(1, n + 1)) if all(row.index(x) < row.index(y) for x, y in lying)]


@lru_cache(maxsize=None)
def asked_well(n, told):
    """How many questions are always enough: any open pair is asked, either answer is heard, it is asked again."""
    order = PlainOrder(n, told)
    enough = [1 + max(asked_well(n, told | {(x, y)}), asked_well(n, told | {(y, x)})) for x, y in order.open_pairs()]
    return min(enough) if enough else 0


class PlainOrder:
    """The words of the document, taken at their word: every row is tried."""

    def __init__(self, n=1, told=()):
        self.n = n
        self.told = list(told)

    def lies_below(self, x, y):
        return (x, y) in self.told or any(a == x and self.lies_below(b, y) for a, b in self.told)

    def may_be(self, row):
        if sorted(row) != list(range(1, self.n + 1)):
            return False
        return not any(self.lies_below(later, earlier)
                       for place, earlier in enumerate(row) for later in row[place + 1:])

    def all_things(self):
        return range(1, self.n + 1)

    def lying(self):
        """Each pair of which the first lies below the second."""
        return tuple((x, y) for x in self.all_things() for y in self.all_things() if self.lies_below(x, y))

    def open_pairs(self):
        return [(x, y) for x, y in combinations(self.all_things(), 2)
                if not self.lies_below(x, y) and not self.lies_below(y, x)]

    def rows(self):
        return list(rows_of(self.n, self.lying()))

    def part_of_rows(self, is_so):
        """In what part of the rows that may be something is so."""
        rows = self.rows()
        return Fraction(len([row for row in rows if is_so(row)]), len(rows))

    def part_ahead(self, x, y):
        return self.part_of_rows(lambda row: row.index(x) < row.index(y))

    def average_place(self, x):
        rows = self.rows()
        return Fraction(sum(row.index(x) + 1 for row in rows), len(rows))

    def no_pair(self, x, y):
        return not (1 <= x <= self.n and 1 <= y <= self.n and x != y)

    def things(self, n):
        if n not in range(1, 8):
            return [-1]
        self.n = n
        self.told = []
        return [0]

    def less(self, x, y):
        if self.no_pair(x, y):
            return [-1]
        if self.lies_below(y, x):
            return [-6]
        if self.lies_below(x, y):
            return [-4]
        self.told.append((x, y))
        return [len(self.rows())]

    def undo(self):
        if not self.told:
            return [-3]
        self.told = self.told[:-1]
        return [len(self.told)]

    def many(self):
        return [len(self.rows())]

    def nth(self, k):
        rows = self.rows()
        return rows[k] if k < len(rows) else [-2]

    def rank(self, row):
        return [self.rows().index(row)] if self.may_be(row) else [-3]

    def chance(self, x, y):
        if self.no_pair(x, y):
            return [-1]
        return told_as(self.part_ahead(x, y))

    def both(self, x, y, z):
        if self.no_pair(x, y) or self.no_pair(x, z):
            return [-1]
        return told_as(self.part_of_rows(lambda row: row.index(x) < row.index(y) and row.index(x) < row.index(z)))

    def spread(self, x):
        if x not in self.all_things():
            return [-1]
        rows = self.rows()
        return [len([row for row in rows if row[place - 1] == x]) for place in self.all_things()] + told_as(
            self.average_place(x))

    def fairest(self):
        half = Fraction(1, 2)
        asked = [(abs(self.part_ahead(x, y) - half), x, y) for x, y in self.open_pairs()]
        if not asked:
            return [-3]
        distance, x, y = sorted(asked)[0]
        return [x, y] + told_as(self.part_ahead(x, y))

    def fewest(self):
        if self.n > 4:
            return [-5]
        return [asked_well(self.n, frozenset(self.told))]

    def next_pairs(self):
        lying = self.lying()
        found = [(x, y) for x, y in lying
                 if not any((x, between) in lying and (between, y) in lying for between in self.all_things())]
        return [len(found)] + [thing for pair in sorted(found) for thing in pair]

    def likely(self):
        averages = sorted((self.average_place(thing), thing) for thing in self.all_things())
        return [number for average, thing in averages for number in [thing] + told_as(average)]

    def is_below(self, x, y):
        if x not in self.all_things() or y not in self.all_things():
            return [-1]
        if self.lies_below(x, y):
            return [1]
        return [2] if self.lies_below(y, x) else [0]


def plainly(*calls):
    """Each call's answer, told the plain way."""
    order = PlainOrder()
    return [getattr(order, name)(*rest) for name, *rest in calls]


def pairs(n):
    return [(x, y) for x in range(1, n + 1) for y in range(1, n + 1) if x != y]


def setting_of(n, told):
    return [("things", n)] + [("less", x, y) for x, y in told]


def told_orders(n):
    """Ways to tell pairs of n things, as many as make every order that n things may have."""
    found = {}
    waiting = [()]
    while waiting:
        told = waiting.pop()
        order = PlainOrder(n, told)
        closed = tuple(pair for pair in pairs(n) if order.lies_below(*pair))
        if closed in found:
            continue
        found[closed] = told
        for x, y in pairs(n):
            if not order.lies_below(x, y) and not order.lies_below(y, x):
                waiting.append(told + ((x, y),))
    return list(found.values())


def drawn_orders(n, how_many, seed):
    """Pairs told at random, each in turn where it is not refused, of n things."""
    draw = random.Random(seed)
    found = []
    for turn in range(how_many):
        order = PlainOrder(n)
        wanted = draw.randrange(0, 12)
        for pair in draw.sample(pairs(n), len(pairs(n))):
            if len(order.told) < wanted and not order.lies_below(*pair) and not order.lies_below(*pair[::-1]):
                order.told.append(pair)
        found.append(tuple(order.told))
    return found
