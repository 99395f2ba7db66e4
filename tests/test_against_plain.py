"""The program's answers held against the slow and plain way."""

import random
import unittest
from itertools import permutations

from plain_order import NUMBERS, PlainOrder, ask, ask_behind, drawn_orders, pairs, plainly, setting_of, told_orders


class Held(unittest.TestCase):
    def check_order(self, n, told, some_rows=None):
        """Holds all that may be asked of one order; of its rows only some, where a number of these is told."""
        setting = setting_of(n, told)
        order = PlainOrder(n, told)
        rows = order.rows()
        self.assertEqual(ask(*setting, ("many",))[-1], [len(rows)])
        kept = sorted(set(range(0, len(rows), max(1, len(rows) // (some_rows or len(rows))))) | {len(rows) - 1})
        self.assertEqual(ask_behind(setting, [("nth", k) for k in kept]), [rows[k] for k in kept])
        self.assertEqual(ask_behind(setting, [("rank", rows[k]) for k in kept]), [[k] for k in kept])
        for name in ("chance", "less"):
            for pair in pairs(n):
                self.assertEqual(ask(*setting, (name, *pair))[-1], plainly_behind(order, rows, name, pair), (told, pair))
        self.check_questions(n, told)

    def check_questions(self, n, told):
        """Holds each call that only asks, with every thing, pair and three of them that it takes."""
        order = PlainOrder(n, told)
        things = range(1, n + 1)
        questions = [("both", x, y, z) for x, y in pairs(n) for z in things if z != x]
        questions += [("is_below", x, y) for x in things for y in things]
        questions += [("spread", x) for x in things]
        questions += [("fairest",), ("fewest",), ("next_pairs",), ("likely",)]
        found = ask_behind(setting_of(n, told), questions)
        for (name, *rest), answered in zip(questions, found, strict=True):
            self.assertEqual(answered, getattr(order, name)(*rest), (n, told, name, rest))

    def test_every_order_of_up_to_four_things(self):
        for n, how_many in ((1, 1), (2, 3), (3, 19), (4, 219)):
            orders = told_orders(n)
            self.assertEqual(len(orders), how_many)
            for told in orders:
                self.check_order(n, told)

    def test_every_list_of_four_things_is_a_row_or_refused(self):
        for told in ((), ((1, 2), (3, 4)), ((4, 2), (2, 1)), ((3, 1), (4, 1), (3, 2))):
            rows = [list(row) for row in permutations(range(1, 5))]
            order = PlainOrder(4, told)
            self.assertEqual(ask_behind(setting_of(4, told), [("rank", row) for row in rows]),
                             [order.rank(row) for row in rows])

    def test_drawn_orders_of_five_and_six_things(self):
        for told in drawn_orders(5, 20, 5) + [()]:
            self.check_order(5, told)
        for told in drawn_orders(6, 12, 6) + [()]:
            self.check_order(6, told, some_rows=60)

    def test_seven_things_with_some_pairs_told(self):
        for told in drawn_orders(7, 5, 7) + [((7, 1), (1, 4), (6, 4), (3, 2))]:
            self.check_order(7, told, some_rows=40)

    def test_seven_things_with_nothing_told(self):
        self.check_order(7, (), some_rows=60)

    def test_every_row_of_seven_things(self):
        rows = [list(row) for row in permutations(range(1, 8))]
        found = ask_behind([("things", 7)], [("nth", k) for k in range(5040)])
        numbers = ask_behind([("things", 7)], [("rank", row) for row in rows])
        # One by one: to show how two long lists differ takes unittest very long.
        for k, row in enumerate(rows):
            self.assertEqual(found[k], row)
            self.assertEqual(numbers[k], [k])

    def test_seven_things_in_one_row(self):
        for row in ((1, 2, 3, 4, 5, 6, 7), (7, 6, 5, 4, 3, 2, 1), (4, 7, 1, 3, 6, 2, 5)):
            self.check_order(7, tuple(zip(row, row[1:])))

    def test_every_order_that_a_row_of_seven_things_grows_into(self):
        row = (5, 2, 7, 1, 6, 3, 4)
        steps = tuple(zip(row, row[1:]))
        for told in range(7):
            self.check_questions(7, steps[:told])

    def test_drawn_calls(self):
        draw = random.Random(2)
        for turn in range(400):
            calls = [("things", draw.choice([3, 4, 4, 5, 5]))]
            calls += [drawn_call(draw) for step in range(draw.randrange(0, 30))]
            self.assertEqual(ask(*calls), plainly(*calls), calls)


def plainly_behind(order, rows, name, pair):
    """What chance or less answers behind what is told, from the rows that were told the plain way."""
    x, y = pair
    ahead = len([row for row in rows if row.index(x) < row.index(y)])
    if name == "chance":
        parts = [part for part in range(1, len(rows) + 1) if ahead % part == 0 and len(rows) % part == 0]
        return [ahead // max(parts), len(rows) // max(parts)]
    if order.lies_below(y, x):
        return [-6]
    return [-4] if order.lies_below(x, y) else [ahead]


def drawn_call(draw):
    """A call on few things, so that the plain way is quick; now and then a wrong one."""
    name = draw.choice(["less"] * 6 + sorted(NUMBERS))
    if name == "things" and draw.random() < 0.7:
        name = "many"
    if name == "things":
        return (name, draw.choice([0, 3, 4, 4, 5, 5, 8]))
    if name in ("less", "chance", "is_below"):
        return (name, draw.randrange(0, 7), draw.randrange(0, 7))
    if name == "both":
        return (name, draw.randrange(0, 6), draw.randrange(1, 6), draw.randrange(1, 7))
    if name == "spread":
        return (name, draw.randrange(0, 7))
    if name == "nth":
        return (name, draw.choice([0, 1, 2, 5, 11, 23, 60, 119, 120]))
    if name == "rank":
        return (name, draw.sample(range(1, 6), draw.choice([0, 1, 3, 4, 5, 5])))
    return (name,)


if __name__ == "__main__":
    unittest.main()
