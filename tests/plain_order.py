"""A second, slow and plain way to tell what the calls answer, and helpers to hand calls in."""

from fractions import Fraction
from itertools import permutations

from openorder.questions import answers

NUMBERS = {"things": 0, "less": 1, "undo": 2, "many": 3, "nth": 4, "rank": 5, "chance": 6}
MOST_CALLS = 30
LARGEST = 4294967295


def flat(calls):
    """The list that is handed in for calls such as ("less", 1, 2) or ("rank", [2, 1])."""
    numbers = []
    for name, *rest in calls:
        numbers.append(NUMBERS[name])
        for value in rest:
            if isinstance(value, list):
                numbers.append(len(value))
                numbers.extend(value)
            else:
                numbers.append(value)
    return numbers


def parted(given):
    """A list of answers, each a list, from what is given back."""
    parts = []
    place = 0
    while place < len(given):
        end = place + 1 + given[place]
        assert place + 1 < end <= len(given), "an answer is empty or cut off"
        parts.append(given[place + 1:end])
        place = end
    return parts


def ask(*calls):
    """Each call's answer, of one list of calls, which stays as it was and is answered the same again."""
    assert 1 <= len(calls) <= MOST_CALLS
    numbers = flat(calls)
    given = answers(numbers)
    assert numbers == flat(calls), "what was handed in is changed"
    assert answers(numbers) == given, "a second time answers otherwise"
    parts = parted(given)
    assert len(parts) == len(calls), "not one answer a call"
    return parts


def ask_behind(setting, questions):
    """Each question's answer, asked behind the calls of setting, in as many lists as it takes."""
    room = MOST_CALLS - len(setting)
    found = []
    for start in range(0, len(questions), room):
        found.extend(ask(*setting, *questions[start:start + room])[len(setting):])
    return found


class PlainOrder:
    """The words of the document, taken at their word: every row is tried."""

    def __init__(self):
        self.n = 1
        self.told = []

    def lies_below(self, x, y):
        return (x, y) in self.told or any(a == x and self.lies_below(b, y) for a, b in self.told)

    def may_be(self, row):
        if sorted(row) != list(range(1, self.n + 1)):
            return False
        return not any(self.lies_below(later, earlier)
                       for place, earlier in enumerate(row) for later in row[place + 1:])

    def rows(self):
        below = {(x, y) for x in range(1, self.n + 1) for y in range(1, self.n + 1) if self.lies_below(x, y)}
        found = []
        for row in permutations(range(1, self.n + 1)):
            if all(row.index(x) < row.index(y) for x, y in below):
                found.append(list(row))
        return sorted(found)

    def no_pair(self, x, y):
        return not (1 <= x <= self.n and 1 <= y <= self.n and x != y)

    def things(self, n):
        if n not in range(1, 8):
            return [-1]
        self.n = n
        self.told = []
        return [0]

    def less(self, x, y):
        if self.no_pair(x, y):
            return [-1]
        if self.lies_below(y, x):
            return [-6]
        if self.lies_below(x, y):
            return [-4]
        self.told.append((x, y))
        return [len(self.rows())]

    def undo(self):
        if not self.told:
            return [-3]
        self.told = self.told[:-1]
        return [len(self.told)]

    def many(self):
        return [len(self.rows())]

    def nth(self, k):
        rows = self.rows()
        return rows[k] if k < len(rows) else [-2]

    def rank(self, row):
        return [self.rows().index(row)] if self.may_be(row) else [-3]

    def chance(self, x, y):
        if self.no_pair(x, y):
            return [-1]
        rows = self.rows()
        part = Fraction(len([row for row in rows if row.index(x) < row.index(y)]), len(rows))
        return [part.numerator, part.denominator]


def plainly(*calls):
    """Each call's answer, told the plain way."""
    order = PlainOrder()
    return [getattr(order, name)(*rest) for name, *rest in calls]
