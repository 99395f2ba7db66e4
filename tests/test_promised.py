"""What the document promises over the whole program, whatever is asked."""

import inspect
import random
import sys
import unittest
from fractions import Fraction

from plain_order import LARGEST, NUMBERS, ask, ask_behind, drawn_orders, flat, pairs, plainly, setting_of, told_orders
from openorder.questions import answers

SEVEN = [("things", 7), ("less", 3, 1), ("less", 1, 6), ("less", 5, 6), ("less", 2, 7)]
ROW = [3, 1, 5, 6, 2, 7, 4]
# One call of each kind, of those that only ask with all of their numbers different.
ONE_OF_EACH = (("things", 7), ("less", 4, 2), ("undo",), ("many",), ("nth", 100), ("rank", ROW), ("chance", 4, 7),
               ("both", 4, 7, 3), ("spread", 5), ("fairest",), ("fewest",), ("next_pairs",), ("likely",),
               ("is_below", 3, 6))
ASKING = [call for call in ONE_OF_EACH if call[0] not in ("things", "less", "undo")]


def many_orders():
    """Orders as they are handed in: all of up to four things, and drawn ones of five to seven."""
    for n in (1, 2, 3, 4):
        for told in told_orders(n):
            yield n, told
    for n in (5, 6, 7):
        for told in drawn_orders(n, 12, n):
            yield n, told


class Unchanged(unittest.TestCase):
    def test_each_kind_is_there(self):
        self.assertEqual([name for name, *rest in ONE_OF_EACH], list(NUMBERS))

    def test_asking_changes_nothing(self):
        told = [("less", 4, 7), ("next_pairs",), ("likely",), ("undo",), ("undo",), ("next_pairs",), ("undo",), ("undo",),
                ("undo",), ("undo",)]
        as_it_was = ask(*SEVEN, *told)[len(SEVEN):]
        for call in ASKING:
            self.assertEqual(ask(*SEVEN, call, call, *told)[len(SEVEN) + 2:], as_it_was, call)
        self.assertEqual(ask(*SEVEN, *ASKING, *told)[-len(told):], as_it_was)

    def test_fewest_of_four_things_changes_nothing(self):
        told = [("less", 1, 3), ("less", 4, 3)]
        after = [("next_pairs",), ("undo",), ("undo",), ("undo",)]
        self.assertEqual(ask(("things", 4), *told, ("fewest",), *after)[-4:], [[2, 1, 3, 4, 3], [1], [0], [-3]])

    def test_refused_questions_change_nothing(self):
        refused = [("both", 0, 1, 2), ("both", 1, 8, 2), ("both", 1, 2, LARGEST), ("both", 1, 1, 2), ("both", 1, 2, 1),
                   ("spread", 0), ("spread", 8), ("is_below", 0, 1), ("is_below", 1, 8), ("fewest",)]
        after = [("next_pairs",), ("likely",), ("undo",), ("next_pairs",)]
        found = ask(*SEVEN, *refused, *after)
        self.assertEqual(found[len(SEVEN):-len(after)], [[-1]] * 9 + [[-5]])
        self.assertEqual(found[-len(after):], ask(*SEVEN, *after)[-len(after):])

    def test_thirty_calls_of_each_kind_with_seven_things(self):
        for call in ONE_OF_EACH:
            calls = (SEVEN + [call] * 30)[:30]
            numbers = flat(calls)
            first = answers(numbers)
            self.assertEqual(numbers, flat(calls))
            self.assertEqual(first, flat_answers(plainly(*calls)), call)
            # Whatever was asked ahead of it, it is as if for the first time.
            answers(flat([("things", 3), ("less", 2, 1), *ASKING[:3]]))
            self.assertEqual(answers(numbers), first)
            self.assertEqual(ask(*[call] * 30), plainly(*[call] * 30))

    def test_thirty_calls_of_all_kinds_with_seven_things(self):
        draw = random.Random(30)
        for turn in range(8):
            calls = SEVEN + [draw.choice(ONE_OF_EACH) for step in range(30 - len(SEVEN))]
            self.assertEqual(ask(*calls), plainly(*calls))

    def test_whole_numbers_alone_are_given_back(self):
        for calls in (SEVEN + ASKING, [("things", 4), ("fewest",), ("is_below", 1, 2), ("less", 1, 2), ("is_below", 1, 2)]):
            given = answers(flat(calls))
            self.assertIs(type(given), list)
            self.assertEqual({type(number) for number in given}, {int})

    def test_few_calls_stand_within_one_another(self):
        calls = flat([("things", 4), ("fewest",)] + SEVEN + ASKING)
        wanted = answers(calls)
        limit = sys.getrecursionlimit()
        sys.setrecursionlimit(len(inspect.stack()) + 60)
        try:
            found = answers(calls)
        finally:
            sys.setrecursionlimit(limit)
        self.assertEqual(found, wanted)


class WhatHoldsOfEveryOrder(unittest.TestCase):
    def test_the_fairest_question_is_fairly_open(self):
        for n, told in many_orders():
            found = ask(*setting_of(n, told), ("fairest",))[-1]
            if found != [-3]:
                self.assertTrue(Fraction(3, 11) <= Fraction(found[2], found[3]) <= Fraction(8, 11), (n, told))

    def test_a_thing_below_one_is_no_less_likely_below_another(self):
        for n, told in many_orders():
            setting = setting_of(n, told)
            ahead = {pair: Fraction(*found) for pair, found in
                     zip(pairs(n), ask_behind(setting, [("chance", *pair) for pair in pairs(n)]), strict=True)}
            threes = [(x, y, z) for x, y in pairs(n) for z in range(y, n + 1) if z != x]
            for (x, y, z), found in zip(threes, ask_behind(setting, [("both", *three) for three in threes]), strict=True):
                self.assertGreaterEqual(Fraction(*found), ahead[x, y] * ahead[x, z], (n, told, x, y, z))

    def test_places_are_spread_without_dips(self):
        for n, told in many_orders():
            for found in ask_behind(setting_of(n, told), [("spread", x) for x in range(1, n + 1)]):
                rows = found[:n]
                for place in range(n):
                    self.assertGreaterEqual(rows[place], min(max(rows[:place + 1]), max(rows[place:])), (n, told))
                    if 0 < place < n - 1:
                        self.assertGreaterEqual(rows[place] ** 2, rows[place - 1] * rows[place + 1], (n, told))


def flat_answers(parts):
    """What is given back for these answers."""
    return [number for part in parts for number in [len(part)] + part]


if __name__ == "__main__":
    unittest.main()
