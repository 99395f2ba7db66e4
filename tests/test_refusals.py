"""What is refused, with which number, and that all is as it was then."""

import unittest
from functools import lru_cache

from plain_order import LARGEST, ask, ask_behind, plainly

NOTHING_TOLD = [("things", 7)]
SOME_TOLD = [("things", 7), ("less", 2, 1), ("less", 1, 5), ("less", 7, 5), ("less", 3, 4)]
ALL_TOLD = [("things", 7)] + [("less", thing + 1, thing) for thing in range(6, 0, -1)]
TAKEN_BACK = [("things", 5), ("less", 4, 2), ("less", 2, 3), ("undo",)]
ONE_THING = [("many",)]
SETTINGS = (ONE_THING, NOTHING_TOLD, SOME_TOLD, ALL_TOLD, TAKEN_BACK)


def how_many_things(setting):
    return 1 if setting is ONE_THING else setting[0][1]


def probe(setting):
    """Calls whose answers tell the things, what is told, in which order it was told, and the rows."""
    rows = ask(*setting, ("many",))[-1][0]
    calls = [("many",), ("nth", 0), ("nth", rows - 1), ("nth", rows), ("likely",), ("next_pairs",)]
    for step in range(7):
        calls += [("undo",), ("next_pairs",)]
    return calls


@lru_cache(maxsize=None)
def probed(setting):
    """The calls of probe, and what is answered when nothing is asked between setting and them."""
    asked = probe(setting)
    return asked, ask(*setting, *asked)


class Refusals(unittest.TestCase):
    def check_refused(self, setting, call, refusal):
        asked, as_it_was = probed(tuple(setting))
        found = ask(*setting, call, *asked)
        with self.subTest(setting=setting, call=call):
            self.assertEqual(found[len(setting)], [refusal])
            self.assertEqual(found[:len(setting)] + found[len(setting) + 1:], as_it_was)

    def test_things(self):
        for setting in SETTINGS:
            for n in (0, 8, 9, 40, 256, LARGEST):
                self.check_refused(setting, ("things", n), -1)

    def test_things_at_the_edges_are_taken(self):
        for setting in SETTINGS:
            self.assertEqual(ask(*setting, ("things", 1), ("nth", 0), ("undo",))[-3:], [[0], [1], [-3]])
            self.assertEqual(ask(*setting, ("things", 7), ("many",), ("undo",))[-3:], [[0], [5040], [-3]])

    def test_a_pair_with_no_such_thing_or_the_same_twice(self):
        for setting in SETTINGS:
            n = how_many_things(setting)
            for name in ("less", "chance"):
                for wrong in (0, n + 1, n + 2, 33, 256, LARGEST):
                    self.check_refused(setting, (name, wrong, 1), -1)
                    self.check_refused(setting, (name, 1, wrong), -1)
                    self.check_refused(setting, (name, n, wrong), -1)
                    self.check_refused(setting, (name, wrong, wrong), -1)
                for thing in range(1, n + 1):
                    self.check_refused(setting, (name, thing, thing), -1)

    def test_less_of_what_lies_the_other_way(self):
        for x, y in ((1, 2), (5, 1), (5, 7), (4, 3), (5, 2)):
            self.check_refused(SOME_TOLD, ("less", x, y), -6)

    def test_less_of_what_lies_below_already(self):
        for x, y in ((2, 1), (1, 5), (7, 5), (3, 4), (2, 5)):
            self.check_refused(SOME_TOLD, ("less", x, y), -4)

    def test_less_by_way_of_all_the_others(self):
        for low in range(1, 7):
            for high in range(low + 1, 8):
                self.check_refused(ALL_TOLD, ("less", low, high), -6)
                self.check_refused(ALL_TOLD, ("less", high, low), -4)

    def test_less_by_way_of_others_told_in_any_order(self):
        for told in (((1, 2), (3, 4), (2, 3)), ((3, 4), (1, 2), (2, 3)), ((2, 3), (1, 2), (3, 4)),
                     ((2, 3), (3, 4), (1, 2))):
            setting = [("things", 5)] + [("less", x, y) for x, y in told]
            self.check_refused(setting, ("less", 4, 1), -6)
            self.check_refused(setting, ("less", 1, 4), -4)
            self.check_refused(setting, ("less", 1, 3), -4)
            self.check_refused(setting, ("less", 4, 2), -6)

    def test_undo_with_nothing_told(self):
        for setting in (ONE_THING, NOTHING_TOLD, TAKEN_BACK + [("undo",)], SOME_TOLD + [("things", 7)],
                        ALL_TOLD + [("things", 3)]):
            self.check_refused(setting, ("undo",), -3)

    def test_undo_after_a_refused_things_takes_back_what_is_told(self):
        self.assertEqual(ask(*SOME_TOLD, ("things", 8), ("undo",))[-2:], [[-1], [3]])

    def test_a_refused_less_is_not_taken_back(self):
        self.assertEqual(ask(*SOME_TOLD, ("less", 2, 5), ("less", 5, 2), ("less", 0, 1), ("undo",), ("less", 4, 3))[-5:],
                         [[-4], [-6], [-1], [3], plainly(*SOME_TOLD[:-1], ("less", 4, 3))[-1]])

    def test_nth_behind_the_last_row(self):
        for setting in SETTINGS:
            rows = plainly(*setting, ("many",))[-1][0]
            self.assertNotEqual(ask(*setting, ("nth", rows - 1))[-1], [-2])
            for k in (rows, rows + 1, 5040, LARGEST):
                if k >= rows:
                    self.check_refused(setting, ("nth", k), -2)

    def test_rank_of_a_list_that_is_no_row(self):
        good = [2, 1, 3, 4, 6, 7, 5]
        self.assertNotEqual(ask(*SOME_TOLD, ("rank", good))[-1], [-3])
        wrong = [[], [0], [2], [LARGEST], good[:-1], good[1:], good + [5], good + [8], good + [0], good + good,
                 (good * 6)[:40], [1] * 40, [0] * 40, [LARGEST] * 40, list(range(1, 41)),
                 [2, 1, 3, 4, 6, 7, 7], [2, 2, 3, 4, 6, 7, 5], [2, 1, 3, 4, 6, 7, 2],
                 [2, 1, 3, 4, 6, 7, 8], [2, 1, 3, 4, 6, 0, 5], [0, 1, 3, 4, 6, 7, 5], [2, 1, 3, 4, LARGEST, 7, 5]]
        for row in wrong:
            self.check_refused(SOME_TOLD, ("rank", row), -3)

    def test_rank_of_a_row_against_what_is_told(self):
        for row in ([1, 2, 3, 4, 5, 6, 7], [1, 2, 3, 4, 6, 7, 5], [2, 1, 4, 3, 6, 7, 5], [2, 1, 3, 4, 6, 5, 7],
                    [5, 2, 1, 3, 4, 6, 7], [7, 5, 2, 1, 3, 4, 6]):
            self.check_refused(SOME_TOLD, ("rank", row), -3)
        self.check_refused(ALL_TOLD, ("rank", [1, 2, 3, 4, 5, 6, 7]), -3)
        self.assertEqual(ask(*ALL_TOLD, ("rank", [7, 6, 5, 4, 3, 2, 1]))[-1], [0])

    def test_rank_against_what_lies_below_by_way_of_others(self):
        setting = [("things", 3), ("less", 1, 2), ("less", 2, 3)]
        for row in ([1, 3, 2], [2, 1, 3], [2, 3, 1], [3, 1, 2], [3, 2, 1]):
            self.check_refused(setting, ("rank", row), -3)

    def test_rank_with_one_thing(self):
        for row in ([], [0], [2], [1, 1], [LARGEST], [1] * 40):
            self.check_refused(ONE_THING, ("rank", row), -3)

    def test_both_with_no_such_thing(self):
        for setting in SETTINGS:
            n = how_many_things(setting)
            for wrong in (0, n + 1, LARGEST):
                for call in (("both", wrong, 1, 1), ("both", 1, wrong, n), ("both", n, 1, wrong), ("both", wrong, 1, n),
                             ("both", 1, wrong, wrong), ("both", wrong, wrong, 1), ("both", wrong, wrong, wrong)):
                    self.check_refused(setting, call, -1)

    def test_both_with_the_same_thing_on_both_sides(self):
        for setting in SETTINGS:
            n = how_many_things(setting)
            for x in range(1, n + 1):
                for other in (1, n, x):
                    self.check_refused(setting, ("both", x, x, other), -1)
                    self.check_refused(setting, ("both", x, other, x), -1)

    def test_spread_of_no_thing(self):
        for setting in SETTINGS:
            for wrong in (0, how_many_things(setting) + 1, 8, 33, 256, LARGEST):
                self.check_refused(setting, ("spread", wrong), -1)

    def test_is_below_with_no_such_thing(self):
        for setting in SETTINGS:
            n = how_many_things(setting)
            for wrong in (0, n + 1, 33, LARGEST):
                for call in (("is_below", wrong, 1), ("is_below", n, wrong), ("is_below", wrong, wrong)):
                    self.check_refused(setting, call, -1)

    def test_fairest_with_nothing_left_to_ask(self):
        for setting in (ONE_THING, ALL_TOLD, ALL_TOLD + [("things", 1)]):
            self.check_refused(setting, ("fairest",), -3)
        for n in range(2, 8):
            row = [("things", n)] + [("less", thing, thing + 1) for thing in range(1, n)]
            self.check_refused(row, ("fairest",), -3)
            self.assertEqual(ask(*row, ("undo",), ("fairest",))[-1][:2],
                             plainly(*row, ("undo",), ("fairest",))[-1][:2])

    def test_fairest_of_one_row_that_was_told_by_more_pairs_than_it_takes(self):
        self.check_refused([("things", 3), ("less", 1, 3), ("less", 2, 3), ("less", 1, 2)], ("fairest",), -3)

    def test_fewest_of_more_than_four_things(self):
        for n in (5, 6, 7):
            row = [("things", n)] + [("less", thing, thing + 1) for thing in range(1, n)]
            for told in (0, 1, 3, n - 2, n - 1):
                self.check_refused(row[:told + 1], ("fewest",), -5)
        for setting in (SOME_TOLD, ALL_TOLD, TAKEN_BACK):
            self.check_refused(setting, ("fewest",), -5)

    def test_a_refused_list_is_passed_over_whole(self):
        # The numbers of a refused row would be calls if they were read as such.
        self.assertEqual(ask(("rank", [0, 7, 3, 3]), ("many",)), [[-3], [1]])
        self.assertEqual(ask_behind(NOTHING_TOLD, [("rank", [1, 1, 2]), ("many",)]), [[-3], [5040]])


if __name__ == "__main__":
    unittest.main()
