"""Each call on ordinary inputs, with answers that are written out."""

import unittest

from plain_order import ask, flat
from openorder.questions import answers

ONE_ROW = [("things", 7)] + [("less", thing, thing + 1) for thing in range(1, 7)]


def refuse(*anything):
    raise AssertionError("what was handed in is changed")


class Unchanging(list):
    """A list that tells when it is changed, be it for a while."""

    append = clear = extend = insert = pop = remove = reverse = sort = refuse
    __setitem__ = __delitem__ = __iadd__ = __imul__ = refuse


class TheList(unittest.TestCase):
    def test_lengths_stand_ahead_of_the_answers(self):
        calls = [0, 3, 1, 2, 1, 3, 4, 2, 5, 3, 2, 1, 3, 6, 1, 3, 2, 2]
        self.assertEqual(answers(calls), [1, 0, 1, 3, 1, 3, 3, 3, 2, 1, 1, 0, 2, 1, 3, 1, 0, 1, -3])

    def test_an_empty_row_takes_one_number(self):
        self.assertEqual(answers([5, 0, 3]), [1, -3, 1, 1])

    def test_a_list_is_given_back_with_whole_numbers_alone(self):
        given = answers(flat(ONE_ROW + [("rank", [1, 2, 3, 4, 5, 6, 7]), ("chance", 2, 1), ("nth", 0), ("nth", 1)]))
        self.assertIs(type(given), list)
        self.assertEqual({type(number) for number in given}, {int})

    def test_what_is_handed_in_stays_as_it_was(self):
        calls = flat(ONE_ROW + [("rank", [7, 6, 5, 4, 3, 2, 1]), ("undo",), ("nth", 1), ("chance", 6, 7), ("things", 2)])
        before = list(calls)
        given = answers(calls)
        self.assertEqual(calls, before)
        self.assertEqual(answers(Unchanging(calls)), given)

    def test_nothing_is_kept_from_one_time_to_the_next(self):
        calls = flat([("many",), ("undo",), ("things", 7), ("less", 1, 2), ("less", 3, 4), ("nth", 9)])
        first = answers(calls)
        answers([0, 5, 1, 2, 1])
        self.assertEqual(answers(calls), first)
        self.assertEqual(answers([3]), [1, 1])

    def test_what_is_given_back_is_no_ones_else(self):
        first = answers([0, 3, 4, 0])
        first[3] = 99
        self.assertEqual(answers([0, 3, 4, 0]), [1, 0, 3, 1, 2, 3])

    def test_thirty_calls_with_long_rows(self):
        self.assertEqual(ask(*[("rank", list(range(1, 41)))] * 30), [[-3]] * 30)


class AtTheBeginning(unittest.TestCase):
    def test_there_is_one_thing_and_nothing_told(self):
        self.assertEqual(ask(("many",), ("nth", 0), ("nth", 1), ("rank", [1]), ("undo",)), [[1], [1], [-2], [0], [-3]])

    def test_no_second_thing_is_there(self):
        self.assertEqual(ask(("less", 1, 2), ("chance", 1, 2), ("chance", 1, 1), ("rank", [1, 2])),
                         [[-1], [-1], [-1], [-3]])


class Things(unittest.TestCase):
    def test_every_row_may_be_when_nothing_is_told(self):
        for n, rows in enumerate([1, 2, 6, 24, 120, 720, 5040], start=1):
            lowest = list(range(1, n + 1))
            self.assertEqual(ask(("things", n), ("many",), ("nth", 0), ("nth", rows - 1), ("nth", rows)),
                             [[0], [rows], lowest, lowest[::-1], [-2]])

    def test_what_was_told_is_not_any_more(self):
        self.assertEqual(ask(("things", 3), ("less", 1, 2), ("less", 2, 3), ("things", 3), ("many",), ("undo",)),
                         [[0], [3], [1], [0], [6], [-3]])

    def test_fewer_and_more_things(self):
        self.assertEqual(ask(("things", 7), ("things", 2), ("many",), ("less", 1, 3), ("things", 3), ("less", 1, 3)),
                         [[0], [0], [2], [-1], [0], [3]])


class Less(unittest.TestCase):
    def test_how_many_rows_may_be_then(self):
        self.assertEqual(ask(("things", 4), ("less", 1, 2), ("less", 3, 4), ("less", 1, 4), ("less", 3, 2)),
                         [[0], [12], [6], [5], [4]])

    def test_seven_in_one_row(self):
        self.assertEqual(ask(*ONE_ROW, ("many",), ("nth", 0), ("nth", 1)),
                         [[0], [2520], [840], [210], [42], [7], [1], [1], [1, 2, 3, 4, 5, 6, 7], [-2]])

    def test_it_joins_what_lies_below_with_what_lies_above(self):
        self.assertEqual(ask(("things", 4), ("less", 1, 2), ("less", 3, 4), ("less", 2, 3), ("nth", 0), ("less", 4, 1)),
                         [[0], [12], [6], [1], [1, 2, 3, 4], [-6]])


class Undo(unittest.TestCase):
    def test_the_last_pair_is_taken_back_first(self):
        self.assertEqual(
            ask(("things", 3), ("less", 3, 2), ("less", 2, 1), ("undo",), ("nth", 0), ("many",), ("undo",), ("nth", 0),
                ("undo",)),
            [[0], [3], [1], [1], [1, 3, 2], [3], [0], [1, 2, 3], [-3]])

    def test_it_counts_pairs_not_what_follows_from_them(self):
        calls = ONE_ROW + [("undo",)] * 7
        self.assertEqual(ask(*calls)[7:], [[5], [4], [3], [2], [1], [0], [-3]])

    def test_what_is_taken_back_may_be_told_the_other_way(self):
        self.assertEqual(ask(("things", 2), ("less", 1, 2), ("undo",), ("less", 2, 1), ("nth", 0)),
                         [[0], [1], [0], [1], [2, 1]])

    def test_what_followed_from_the_pair_goes_with_it(self):
        self.assertEqual(ask(("things", 3), ("less", 1, 2), ("less", 2, 3), ("undo",), ("less", 3, 1), ("nth", 0)),
                         [[0], [3], [1], [1], [1], [3, 1, 2]])


class NthAndRank(unittest.TestCase):
    ROWS = [[1, 3, 2, 4], [1, 3, 4, 2], [3, 1, 2, 4], [3, 1, 4, 2], [3, 4, 1, 2]]
    TOLD = [("things", 4), ("less", 1, 2), ("less", 3, 4), ("less", 3, 2)]

    def test_rows_are_numbered_from_0_the_lower_thing_first(self):
        self.assertEqual(ask(*self.TOLD, *[("nth", k) for k in range(6)])[4:], self.ROWS + [[-2]])

    def test_a_row_has_the_number_it_is_found_by(self):
        self.assertEqual(ask(*self.TOLD, *[("rank", row) for row in self.ROWS])[4:], [[0], [1], [2], [3], [4]])

    def test_the_first_and_the_last_of_seven(self):
        self.assertEqual(ask(("things", 7), ("rank", [1, 2, 3, 4, 5, 6, 7]), ("rank", [7, 6, 5, 4, 3, 2, 1]),
                             ("rank", [1, 2, 3, 4, 5, 7, 6]), ("nth", 720), ("nth", 719)),
                         [[0], [0], [5039], [1], [2, 1, 3, 4, 5, 6, 7], [1, 7, 6, 5, 4, 3, 2]])


class Chance(unittest.TestCase):
    def test_a_half_when_nothing_is_told(self):
        self.assertEqual(ask(("things", 7), ("chance", 1, 7), ("chance", 7, 1)), [[0], [1, 2], [1, 2]])

    def test_it_is_told_in_lowest_terms(self):
        self.assertEqual(ask(("things", 3), ("less", 1, 2), ("chance", 1, 3), ("chance", 3, 1), ("chance", 3, 2)),
                         [[0], [3], [2, 3], [1, 3], [2, 3]])
        self.assertEqual(ask(("things", 7), ("less", 1, 2), ("less", 3, 2), ("chance", 1, 4))[3:], [[5, 8]])

    def test_never_and_always(self):
        self.assertEqual(ask(("things", 7), ("less", 1, 2), ("less", 2, 3), ("chance", 1, 3), ("chance", 3, 1),
                             ("chance", 1, 2), ("chance", 2, 1))[3:], [[1, 1], [0, 1], [1, 1], [0, 1]])

    def test_asking_tells_nothing(self):
        self.assertEqual(ask(("things", 3), ("chance", 1, 2), ("many",), ("undo",)), [[0], [1, 2], [6], [-3]])


if __name__ == "__main__":
    unittest.main()
