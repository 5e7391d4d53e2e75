"""Point 3, as far as hand goes, and what is said of hands ahead of the points."""

import random
import unittest
from fractions import Fraction
from math import gcd

from tests.lines import GREATEST, asked, hands_told, last, some_marks, told
from tests.oracle import groups, solved


class Refusals(unittest.TestCase):
    def test_above_5(self):
        self.assertEqual(last(("hand", 6)), [-22])
        self.assertEqual(last(("hand", GREATEST)), [-22])
        self.assertEqual(last(("mark", 5, 15, 5), ("hand", 6)), [-22])
        self.assertEqual(last(("mark", 5, 15, 5), ("hand", 15)), [-22])

    def test_marked_nothing(self):
        self.assertEqual(told(*[("hand", judge) for judge in range(6)]), [[-2]] * 6)
        self.assertEqual(last(("mark", 0, 1, 5), ("hand", 1)), [-2])
        self.assertEqual(last(("mark", 4, 5, 5), ("hand", 5)), [-2])

    def test_marked_nothing_any_more(self):
        found = told(("mark", 5, 0, 5), ("mark", 5, 1, 5), ("unmark", 5, 0), ("hand", 5), ("unmark", 5, 1), ("hand", 5))
        self.assertEqual(found[2:], [[1], [0, 0, 1], [0], [-2]])

    def test_a_refused_mark_is_none(self):
        self.assertEqual(last(("mark", 0, 16, 5), ("mark", 0, 0, 1001), ("hand", 0)), [-2])

    def test_hand_changes_nothing_refused_or_not(self):
        found = told(
            ("mark", 0, 0, 5), ("mark", 1, 0, 7), ("hand", 6), ("hand", 2), ("hand", 1), ("hand", 1), ("work", 0),
            ("unmark", 2, 0), ("mark", 2, 1, 6),
        )
        self.assertEqual(found[2:], [[-22], [-2], [0, 1, 1], [0, 1, 1], [0, 6, 1], [-2], [3]])


class Corners(unittest.TestCase):
    def check(self, marks, expected):
        self.assertEqual(hands_told(marks), {judge: [0, above, below] for judge, (above, below) in expected.items()})

    def test_one_judge_alone(self):
        self.check({(3, 0): 10, (3, 7): 1000, (3, 15): 0}, {3: (0, 1)})

    def test_each_judge_and_each_work_alone(self):
        for judge in range(6):
            for work in range(16):
                self.check({(judge, work): 100 + work}, {judge: (0, 1)})

    def test_two_judges_of_one_work(self):
        self.check({(0, 0): 10, (1, 0): 20}, {0: (-5, 1), 1: (5, 1)})
        self.check({(0, 0): 10, (1, 0): 21}, {0: (-11, 2), 1: (11, 2)})
        self.check({(4, 15): 1000, (5, 15): 0}, {4: (500, 1), 5: (-500, 1)})

    def test_in_lowest_terms(self):
        self.check({(0, 0): 0, (1, 0): 0, (2, 0): 1}, {0: (-1, 3), 1: (-1, 3), 2: (2, 3)})
        self.check({(0, 0): 0, (1, 0): 0, (2, 0): 3}, {0: (-1, 1), 1: (-1, 1), 2: (2, 1)})
        # Five marks of 0 and one of 2: the mean is 1/3.
        marks = {(judge, 0): 0 for judge in range(5)}
        marks[(5, 0)] = 2
        self.check(marks, {**{judge: (-1, 3) for judge in range(5)}, 5: (5, 3)})

    def test_0_is_0_and_1_beside_hands_that_are_not_0(self):
        self.check({(0, 0): 0, (1, 0): 2, (1, 1): 0, (2, 1): 2, (2, 2): 50}, {0: (-2, 1), 1: (0, 1), 2: (2, 1)})
        self.check({(0, 0): 7, (1, 0): 8, (2, 0): 6}, {0: (0, 1), 1: (1, 1), 2: (-1, 1)})

    def test_a_work_with_one_mark_tells_nothing_of_the_hand(self):
        for mark in (0, 30, 1000):
            self.check({(0, 0): 10, (1, 0): 20, (0, 1): mark}, {0: (-5, 1), 1: (5, 1)})

    def test_two_judges_with_no_work_in_common_and_a_third_with_works_of_both(self):
        # Judge 2 marks 4 above judge 0, and judge 1 marks 2 above judge 2.
        marks = {(0, 0): 10, (2, 0): 14, (1, 1): 20, (2, 1): 18, (0, 2): 30, (1, 3): 30}
        self.check(marks, {0: (-10, 3), 1: (8, 3), 2: (2, 3)})

    def test_two_groups_have_nothing_to_do_with_one_another(self):
        one = {(0, 0): 10, (1, 0): 20, (0, 1): 30}
        other = {(2, 2): 100, (3, 2): 200, (5, 2): 600, (5, 3): 0}
        self.check({**one, **other}, {0: (-5, 1), 1: (5, 1), 2: (-200, 1), 3: (-100, 1), 5: (300, 1)})

    def test_a_mark_taken_back_by_which_a_group_falls_apart(self):
        marks = {(0, 0): 10, (1, 0): 20, (0, 1): 30, (1, 2): 40}
        hands = [("hand", 0), ("hand", 1)]
        found = asked(marks, *hands, ("unmark", 1, 0), *hands)
        self.assertEqual(found, [[0, -5, 1], [0, 5, 1], [3], [0, 0, 1], [0, 0, 1]])

    def test_a_mark_taken_back_leaves_one_alone_and_the_others_together(self):
        marks = {(0, 0): 0, (1, 0): 2, (1, 1): 0, (2, 1): 4, (2, 2): 50}
        hands = [("hand", 0), ("hand", 1), ("hand", 2)]
        found = asked(marks, *hands, ("unmark", 1, 1), *hands)
        self.assertEqual(found[:3], [[0, -8, 3], [0, -2, 3], [0, 10, 3]])
        self.assertEqual(found[4:], [[0, -1, 1], [0, 1, 1], [0, 0, 1]])

    def test_all_marks_alike(self):
        for mark in (0, 7, 1000):
            marks = {(judge, work): mark for judge in range(6) for work in range(16)}
            self.check(marks, {judge: (0, 1) for judge in range(6)})

    def test_a_mark_given_anew(self):
        marks = {(0, 0): 10, (1, 0): 20, (1, 1): 30}
        found = asked(marks, ("hand", 1), ("mark", 1, 0, 11), ("hand", 1), ("mark", 1, 0, 10), ("hand", 1))
        self.assertEqual(found, [[0, 5, 1], [3], [0, 1, 2], [3], [0, 0, 1]])

    def test_where_hands_are_not_all_there_is(self):
        # Judge 1 marks 1 higher once and 2 higher the other time.
        marks = {(0, 0): 10, (1, 0): 11, (0, 1): 20, (1, 1): 22, (0, 2): 30}
        self.check(marks, {0: (-3, 4), 1: (3, 4)})

    def test_a_chain_of_all_judges(self):
        marks = {}
        for judge in range(5):
            marks[(judge, judge)] = 100
            marks[(judge + 1, judge)] = 110
        self.check(marks, {judge: (10 * judge - 25, 1) for judge in range(6)})


class AgainstTheSentences(unittest.TestCase):
    def check(self, marks):
        right = solved(marks)
        found = hands_told(marks)
        for judge, answer in found.items():
            self.assertEqual(len(answer), 3)
            self.assertEqual(answer[0], 0)
            self.assertGreater(answer[2], 0)
            self.assertEqual(gcd(answer[1], answer[2]), 1)
            self.assertEqual(Fraction(answer[1], answer[2]), right[("hand", judge)], marks)
        for group in groups(marks):
            self.assertEqual(sum(Fraction(found[judge][1], found[judge][2]) for judge in group), 0)

    def test_every_choice_of_marks_of_three_judges_and_three_works(self):
        places = [(judge, work) for judge in range(3) for work in range(3)]
        for choice in range(2 ** 9):
            self.check({
                place: (11 * k * k + 5 * k * choice) % 101
                for k, place in enumerate(places) if choice >> k & 1
            })

    def test_some_marks_of_all_judges_and_works(self):
        source = random.Random(11)
        for share in (10, 15, 20, 30, 50, 70, 90, 100):
            for _ in range(6):
                self.check(some_marks(source, 6, 16, share, 1000))

    def test_few_marks_so_that_there_are_groups(self):
        source = random.Random(12)
        for _ in range(100):
            self.check(some_marks(source, 6, 8, 25, 20))


class WhatHolds(unittest.TestCase):
    def test_hands_are_as_far_from_one_another_as_what_they_add(self):
        source = random.Random(13)
        for _ in range(40):
            worth = [source.randint(100, 900) for _ in range(16)]
            adds = [source.randint(-100, 100) for _ in range(6)]
            places = some_marks(source, 6, 16, 20, 0)
            marks = {(judge, work): worth[work] + adds[judge] for judge, work in places}
            found = hands_told(marks)
            for group in groups(marks):
                mean = Fraction(sum(adds[judge] for judge in group), len(group))
                for judge in group:
                    self.assertEqual(Fraction(found[judge][1], found[judge][2]), adds[judge] - mean)


if __name__ == "__main__":
    unittest.main()
