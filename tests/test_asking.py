"""The calls that only ask, both to is_below, on ordinary inputs and at the edges, with answers that are written out."""

import unittest

from plain_order import ask
from openorder.questions import answers

SEVEN = [("things", 7)]
SEVEN_IN_ONE_ROW = SEVEN + [("less", thing, thing + 1) for thing in range(1, 7)]
SEVEN_WITH_SOME_TOLD = SEVEN + [("less", 2, 1), ("less", 1, 5), ("less", 7, 5), ("less", 3, 4)]
FOUR = [("things", 4)]
FOUR_IN_ONE_ROW = FOUR + [("less", 3, 1), ("less", 1, 4), ("less", 4, 2)]
# The rows that may be: 1 3 2 4, 1 3 4 2, 3 1 2 4, 3 1 4 2 and 3 4 1 2.
FOUR_WITH_SOME_TOLD = FOUR + [("less", 1, 2), ("less", 3, 4), ("less", 3, 2)]
TWO = [("things", 2)]
TWO_IN_ONE_ROW = TWO + [("less", 2, 1)]


class Asking(unittest.TestCase):
    def check(self, setting, *asked):
        """Holds each question, behind setting, against the answer that stands with it."""
        found = ask(*setting, *[question for question, wanted in asked])[len(setting):]
        for (question, wanted), answered in zip(asked, found, strict=True):
            self.assertEqual(answered, wanted, (setting, question))


class OneList(Asking):
    def test_lengths_stand_ahead_of_the_answers(self):
        calls = [0, 3, 1, 1, 2, 7, 1, 2, 3, 8, 1, 9, 10, 11, 12, 13, 2, 1, 7, 1, 2, 1, 3]
        self.assertEqual(answers(calls), [1, 0, 1, 3, 2, 2, 3, 5, 2, 1, 0, 4, 3, 4, 1, 3, 2, 3, 1, 2, 3, 1, 1, 2,
                                          9, 1, 4, 3, 3, 2, 1, 2, 8, 3, 1, 2, 1, -1, 1, 3])

    def test_one_thing_at_the_beginning(self):
        for setting in ([], [("things", 1)], SEVEN_IN_ONE_ROW + [("things", 1)]):
            self.check(setting, (("fairest",), [-3]), (("fewest",), [0]), (("next_pairs",), [0]), (("likely",), [1, 1, 1]),
                       (("spread", 1), [1, 1, 1]), (("is_below", 1, 1), [0]), (("both", 1, 1, 1), [-1]),
                       (("both", 1, 2, 3), [-1]), (("spread", 2), [-1]), (("is_below", 1, 2), [-1]))


class Both(Asking):
    def test_two_things(self):
        self.check(TWO, (("both", 1, 2, 2), [1, 2]), (("both", 2, 1, 1), [1, 2]))
        self.check(TWO_IN_ONE_ROW, (("both", 1, 2, 2), [0, 1]), (("both", 2, 1, 1), [1, 1]))

    def test_a_third_when_nothing_is_told(self):
        self.check(FOUR, (("both", 1, 2, 3), [1, 3]), (("both", 4, 2, 1), [1, 3]), (("both", 3, 4, 4), [1, 2]))
        self.check(SEVEN, (("both", 1, 2, 3), [1, 3]), (("both", 7, 4, 1), [1, 3]), (("both", 2, 7, 7), [1, 2]))

    def test_some_told(self):
        self.check(FOUR_WITH_SOME_TOLD, (("both", 1, 3, 4), [2, 5]), (("both", 1, 4, 3), [2, 5]),
                   (("both", 3, 1, 4), [3, 5]), (("both", 1, 2, 4), [4, 5]), (("both", 4, 1, 2), [1, 5]),
                   (("both", 4, 2, 2), [3, 5]), (("both", 3, 2, 4), [1, 1]), (("both", 2, 4, 4), [2, 5]))
        self.check(SEVEN_WITH_SOME_TOLD, (("both", 2, 1, 5), [1, 1]), (("both", 6, 3, 4), [1, 3]),
                   (("both", 7, 5, 2), [1, 3]), (("both", 2, 6, 6), [11, 15]))

    def test_never_where_one_of_the_two_lies_below(self):
        self.check(FOUR_WITH_SOME_TOLD, (("both", 2, 1, 4), [0, 1]), (("both", 2, 4, 1), [0, 1]),
                   (("both", 4, 3, 3), [0, 1]), (("both", 2, 1, 3), [0, 1]))

    def test_one_row(self):
        self.check(SEVEN_IN_ONE_ROW, (("both", 1, 7, 2), [1, 1]), (("both", 4, 5, 7), [1, 1]), (("both", 4, 5, 3), [0, 1]),
                   (("both", 4, 1, 7), [0, 1]), (("both", 7, 1, 1), [0, 1]))
        self.check(FOUR_IN_ONE_ROW, (("both", 3, 4, 2), [1, 1]), (("both", 1, 2, 3), [0, 1]))

    def test_the_same_as_a_chance_where_y_is_z(self):
        for setting in (SEVEN, SEVEN_WITH_SOME_TOLD, FOUR_WITH_SOME_TOLD):
            for x, y in ((1, 2), (2, 1), (4, 1), (1, 4), (3, 2), (4, 3)):
                chance, both = ask(*setting, ("chance", x, y), ("both", x, y, y))[-2:]
                self.assertEqual(chance, both)


class Spread(Asking):
    def test_two_things(self):
        self.check(TWO, (("spread", 1), [1, 1, 3, 2]), (("spread", 2), [1, 1, 3, 2]))
        self.check(TWO_IN_ONE_ROW, (("spread", 1), [0, 1, 2, 1]), (("spread", 2), [1, 0, 1, 1]))

    def test_the_same_in_every_place_when_nothing_is_told(self):
        self.check(FOUR, *[(("spread", x), [6, 6, 6, 6, 5, 2]) for x in range(1, 5)])
        self.check(SEVEN, *[(("spread", x), [720] * 7 + [4, 1]) for x in range(1, 8)])

    def test_some_told(self):
        self.check(FOUR_WITH_SOME_TOLD, (("spread", 1), [2, 2, 1, 0, 9, 5]), (("spread", 2), [0, 0, 2, 3, 18, 5]),
                   (("spread", 3), [3, 2, 0, 0, 7, 5]), (("spread", 4), [0, 1, 2, 2, 16, 5]))
        self.check(SEVEN_WITH_SOME_TOLD, (("spread", 6), [45] * 7 + [4, 1]),
                   (("spread", 3), [90, 75, 60, 45, 30, 15, 0, 8, 3]))

    def test_one_row(self):
        self.check(SEVEN_IN_ONE_ROW, (("spread", 1), [1, 0, 0, 0, 0, 0, 0, 1, 1]),
                   (("spread", 4), [0, 0, 0, 1, 0, 0, 0, 4, 1]), (("spread", 7), [0, 0, 0, 0, 0, 0, 1, 7, 1]))
        self.check(FOUR_IN_ONE_ROW, (("spread", 1), [0, 1, 0, 0, 2, 1]), (("spread", 2), [0, 0, 0, 1, 4, 1]))

    def test_a_thing_that_has_to_stand_first_or_last(self):
        first = SEVEN + [("less", 5, thing) for thing in (1, 2, 3, 4, 6, 7)]
        last = SEVEN + [("less", thing, 5) for thing in (1, 2, 3, 4, 6, 7)]
        self.check(first, (("spread", 5), [720, 0, 0, 0, 0, 0, 0, 1, 1]), (("spread", 1), [0] + [120] * 6 + [9, 2]))
        self.check(last, (("spread", 5), [0, 0, 0, 0, 0, 0, 720, 7, 1]), (("spread", 7), [120] * 6 + [0, 7, 2]))


class Fairest(Asking):
    def test_a_half_when_nothing_is_told(self):
        for n in range(2, 8):
            self.check([("things", n)], (("fairest",), [1, 2, 1, 2]))

    def test_some_told(self):
        self.check(SEVEN_WITH_SOME_TOLD, (("fairest",), [1, 6, 7, 15]))
        self.check(FOUR + [("less", 1, 2), ("less", 2, 3)], (("fairest",), [2, 4, 1, 2]))
        self.check(FOUR + [("less", 1, 2)], (("fairest",), [3, 4, 1, 2]))

    def test_of_as_near_ones_the_lower_x(self):
        # 1 ahead of 3 and 2 ahead of 4 both have two fifths.
        self.check(FOUR_WITH_SOME_TOLD, (("fairest",), [1, 3, 2, 5]))

    def test_of_the_same_x_the_lower_y(self):
        # 1 stands ahead of 2 with one third, of 3 with two thirds.
        self.check([("things", 3), ("less", 2, 3)], (("fairest",), [1, 2, 1, 3]))
        # 2 stands ahead of 3 with two thirds, of 4 with one third.
        self.check(FOUR + [("less", 1, 2), ("less", 1, 4), ("less", 4, 3)], (("fairest",), [2, 3, 2, 3]))

    def test_above_a_half_is_as_near_as_below_it(self):
        self.check([("things", 3), ("less", 1, 2)], (("fairest",), [1, 3, 2, 3]))
        self.check([("things", 3), ("less", 2, 1)], (("fairest",), [1, 3, 1, 3]))
        self.check(FOUR + [("less", 1, 4), ("less", 2, 3), ("less", 1, 3)], (("fairest",), [1, 2, 3, 5]))
        self.check(FOUR + [("less", 1, 4), ("less", 2, 3), ("less", 2, 4)], (("fairest",), [1, 2, 2, 5]))

    def test_all_in_one_row(self):
        for setting in (TWO_IN_ONE_ROW, FOUR_IN_ONE_ROW, SEVEN_IN_ONE_ROW):
            self.check(setting, (("fairest",), [-3]))

    def test_one_pair_is_left(self):
        self.check(SEVEN + [("less", thing, thing + 1) for thing in range(1, 6)] + [("less", 5, 7)],
                   (("fairest",), [6, 7, 1, 2]), (("less", 7, 6), [1]), (("fairest",), [-3]), (("undo",), [6]),
                   (("fairest",), [6, 7, 1, 2]))


class Fewest(Asking):
    def test_nothing_told(self):
        for n, questions in ((1, 0), (2, 1), (3, 3), (4, 5), (5, -5), (6, -5), (7, -5)):
            self.check([("things", n)], (("fewest",), [questions]))

    def test_some_told(self):
        self.check(FOUR_WITH_SOME_TOLD, (("fewest",), [3]))
        self.check(FOUR, (("less", 1, 2), [12]), (("fewest",), [4]), (("less", 3, 4), [6]), (("fewest",), [3]))
        self.check(FOUR, (("less", 1, 2), [12]), (("less", 2, 3), [4]), (("fewest",), [2]))
        self.check(FOUR, (("less", 4, 1), [12]), (("less", 4, 2), [8]), (("less", 4, 3), [6]), (("fewest",), [3]))
        self.check([("things", 3), ("less", 2, 1)], (("fewest",), [2]))

    def test_the_first_question_counts(self):
        # Of 1 and 2 first, three are enough; of 3 and 4 first, which parts eight rows into six and two, they are not.
        self.check(FOUR, (("less", 4, 1), [12]), (("less", 4, 2), [8]), (("fewest",), [3]), (("less", 4, 3), [6]),
                   (("fewest",), [3]))

    def test_all_told(self):
        self.check(TWO_IN_ONE_ROW, (("fewest",), [0]))
        self.check(FOUR_IN_ONE_ROW, (("fewest",), [0]))
        self.check(SEVEN_IN_ONE_ROW, (("fewest",), [-5]))

    def test_what_is_taken_back_is_asked_again(self):
        self.check(FOUR_IN_ONE_ROW, (("undo",), [2]), (("fewest",), [2]), (("undo",), [1]), (("fewest",), [4]),
                   (("undo",), [0]), (("fewest",), [5]), (("things", 5), [0]), (("fewest",), [-5]))


class NextPairs(Asking):
    def test_nothing_told(self):
        for n in range(1, 8):
            self.check([("things", n)], (("next_pairs",), [0]))

    def test_some_told(self):
        self.check(FOUR_WITH_SOME_TOLD, (("next_pairs",), [3, 1, 2, 3, 2, 3, 4]))
        self.check(SEVEN_WITH_SOME_TOLD, (("next_pairs",), [4, 1, 5, 2, 1, 3, 4, 7, 5]))

    def test_one_row(self):
        self.check(TWO_IN_ONE_ROW, (("next_pairs",), [1, 2, 1]))
        self.check(FOUR_IN_ONE_ROW, (("next_pairs",), [3, 1, 4, 3, 1, 4, 2]))
        self.check(SEVEN_IN_ONE_ROW, (("next_pairs",), [6, 1, 2, 2, 3, 3, 4, 4, 5, 5, 6, 6, 7]))

    def test_a_told_pair_with_something_between(self):
        self.check([("things", 3)], (("less", 1, 3), [3]), (("next_pairs",), [1, 1, 3]), (("less", 1, 2), [2]),
                   (("next_pairs",), [2, 1, 2, 1, 3]), (("less", 2, 3), [1]), (("next_pairs",), [2, 1, 2, 2, 3]),
                   (("undo",), [2]), (("next_pairs",), [2, 1, 2, 1, 3]))

    def test_something_between_by_way_of_others(self):
        self.check(FOUR + [("less", 4, 3), ("less", 4, 1), ("less", 1, 2), ("less", 2, 3)],
                   (("next_pairs",), [3, 1, 2, 2, 3, 4, 1]))

    def test_as_many_as_there_can_be(self):
        told = [("less", x, y) for y in (7, 6, 2, 1) for x in (5, 4, 3)]
        wanted = [12] + [thing for x in (3, 4, 5) for y in (1, 2, 6, 7) for thing in (x, y)]
        self.check(SEVEN + told, (("next_pairs",), wanted))


class Likely(Asking):
    def test_the_same_average_when_nothing_is_told(self):
        self.check(TWO, (("likely",), [1, 3, 2, 2, 3, 2]))
        self.check(FOUR, (("likely",), [1, 5, 2, 2, 5, 2, 3, 5, 2, 4, 5, 2]))
        self.check(SEVEN, (("likely",), [number for thing in range(1, 8) for number in (thing, 4, 1)]))

    def test_some_told(self):
        self.check(FOUR_WITH_SOME_TOLD, (("likely",), [3, 7, 5, 1, 9, 5, 4, 16, 5, 2, 18, 5]))
        self.check(SEVEN_WITH_SOME_TOLD, (("likely",), [2, 32, 15, 3, 8, 3, 7, 16, 5, 6, 4, 1, 1, 64, 15, 4, 16, 3,
                                                        5, 32, 5]))

    def test_the_same_average_of_some(self):
        self.check(FOUR + [("less", 4, 2), ("less", 3, 1)], (("likely",), [3, 5, 3, 4, 5, 3, 1, 10, 3, 2, 10, 3]))
        self.check([("things", 3), ("less", 3, 1), ("less", 2, 1)], (("likely",), [2, 3, 2, 3, 3, 2, 1, 3, 1]))

    def test_one_row(self):
        self.check(TWO_IN_ONE_ROW, (("likely",), [2, 1, 1, 1, 2, 1]))
        self.check(FOUR_IN_ONE_ROW, (("likely",), [3, 1, 1, 1, 2, 1, 4, 3, 1, 2, 4, 1]))
        self.check(SEVEN_IN_ONE_ROW, (("likely",), [number for thing in range(1, 8) for number in (thing, thing, 1)]))


class IsBelow(Asking):
    def test_nothing_told(self):
        for n in (1, 2, 4, 7):
            for x in range(1, n + 1):
                self.check([("things", n)], *[(("is_below", x, y), [0]) for y in range(1, n + 1)])

    def test_a_thing_and_itself(self):
        for setting in (FOUR_WITH_SOME_TOLD, FOUR_IN_ONE_ROW):
            self.check(setting, *[(("is_below", x, x), [0]) for x in range(1, 5)])
        self.check(SEVEN_IN_ONE_ROW, *[(("is_below", x, x), [0]) for x in range(1, 8)])

    def test_told(self):
        self.check(TWO_IN_ONE_ROW, (("is_below", 2, 1), [1]), (("is_below", 1, 2), [2]))
        self.check(FOUR_WITH_SOME_TOLD, (("is_below", 1, 2), [1]), (("is_below", 2, 1), [2]), (("is_below", 3, 2), [1]),
                   (("is_below", 4, 3), [2]), (("is_below", 1, 3), [0]), (("is_below", 4, 2), [0]))

    def test_by_way_of_others_alone(self):
        self.check(SEVEN_WITH_SOME_TOLD, (("is_below", 2, 5), [1]), (("is_below", 5, 2), [2]), (("is_below", 2, 7), [0]))
        for x in range(1, 8):
            self.check(SEVEN_IN_ONE_ROW, *[(("is_below", x, y), [1]) for y in range(x + 1, 8)],
                       *[(("is_below", y, x), [2]) for y in range(x + 1, 8)])

    def test_not_any_more_when_it_is_taken_back(self):
        self.check(SEVEN_WITH_SOME_TOLD, (("undo",), [3]), (("is_below", 3, 4), [0]), (("undo",), [2]),
                   (("undo",), [1]), (("is_below", 2, 5), [0]), (("is_below", 1, 2), [2]))


if __name__ == "__main__":
    unittest.main()
