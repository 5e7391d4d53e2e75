"""Point 3, as far as work goes, and what is said ahead of the points."""

import random
import unittest
from fractions import Fraction
from math import gcd

from tests.lines import GREATEST, last, marking, some_marks, told, works_told
from tests.oracle import groups, solved


class Refusals(unittest.TestCase):
    def test_above_15(self):
        self.assertEqual(last(("work", 16)), [-22])
        self.assertEqual(last(("work", GREATEST)), [-22])
        self.assertEqual(last(("mark", 0, 0, 5), ("work", 16)), [-22])

    def test_no_mark(self):
        self.assertEqual(last(("work", 0)), [-2])
        self.assertEqual(last(("work", 15)), [-2])
        self.assertEqual(last(("mark", 0, 0, 5), ("work", 1)), [-2])

    def test_work_changes_nothing_refused_or_not(self):
        found = told(
            ("mark", 0, 0, 5), ("work", 16), ("work", 1), ("work", 0), ("work", 0),
            ("unmark", 0, 1), ("mark", 0, 1, 6),
        )
        self.assertEqual(found[1:], [[-22], [-2], [0, 5, 1], [0, 5, 1], [-2], [2]])


class Corners(unittest.TestCase):
    def check(self, marks, expected):
        self.assertEqual(works_told(marks), {work: [0, above, below] for work, (above, below) in expected.items()})

    def test_one_judge_alone(self):
        self.check({(3, 0): 10, (3, 7): 1000, (3, 15): 0}, {0: (10, 1), 7: (1000, 1), 15: (0, 1)})

    def test_two_judges_of_one_work(self):
        self.check({(0, 0): 10, (1, 0): 20}, {0: (15, 1)})

    def test_a_work_with_one_mark_has_its_judges_hand_taken_off(self):
        # Judge 1 marks 10 above judge 0: the hands are -5 and 5.
        self.check({(0, 0): 10, (1, 0): 20, (0, 1): 30}, {0: (15, 1), 1: (35, 1)})
        self.check({(0, 0): 10, (1, 0): 20, (1, 1): 30}, {0: (15, 1), 1: (25, 1)})

    def test_what_is_above_may_be_below_0(self):
        self.check({(0, 0): 0, (1, 0): 1, (1, 1): 0}, {0: (1, 2), 1: (-1, 2)})
        self.check({(0, 0): 0, (1, 0): 1000, (1, 1): 0}, {0: (500, 1), 1: (-500, 1)})
        # Hands -1/3, -1/3 and 2/3.
        self.check({(0, 0): 0, (1, 0): 0, (2, 0): 1, (2, 1): 0}, {0: (1, 3), 1: (-2, 3)})

    def test_0_is_0_and_1(self):
        self.check({(0, 0): 0}, {0: (0, 1)})
        # Hands -1 and 1.
        self.check({(0, 0): 0, (1, 0): 2, (1, 1): 1}, {0: (1, 1), 1: (0, 1)})
        # Hands -5/3, -2/3 and 7/3: of work 1 the marks 0 and 1 less these are 5/3 each.
        self.check({(0, 0): 0, (1, 0): 1, (2, 0): 4, (0, 1): 0, (1, 1): 1}, {0: (5, 3), 1: (5, 3)})

    def test_two_judges_with_no_work_in_common_and_a_third_with_works_of_both(self):
        # Judge 2 marks 4 above judge 0, and judge 1 marks 2 above judge 2: hands -10/3, 8/3 and 2/3.
        marks = {(0, 0): 10, (2, 0): 14, (1, 1): 20, (2, 1): 18, (0, 2): 30, (1, 3): 30}
        self.check(marks, {0: (40, 3), 1: (52, 3), 2: (100, 3), 3: (82, 3)})

    def test_two_groups_have_nothing_to_do_with_one_another(self):
        one = {(0, 0): 10, (1, 0): 20, (0, 1): 30}
        other = {(2, 2): 100, (3, 2): 200, (5, 2): 600, (5, 3): 0}
        self.check({**one, **other}, {0: (15, 1), 1: (35, 1), 2: (300, 1), 3: (-300, 1)})

    def test_hands_of_each_group_are_0_all_together(self):
        # Taken over both groups together the sum would be 0 in other ways, too.
        marks = {(0, 0): 0, (1, 0): 6, (2, 1): 0, (3, 1): 60}
        self.check(marks, {0: (3, 1), 1: (30, 1)})

    def test_a_mark_taken_back_by_which_a_group_falls_apart(self):
        calls = [("mark", 0, 0, 10), ("mark", 1, 0, 20), ("mark", 0, 1, 30), ("mark", 1, 2, 40)]
        asked = [("work", 0), ("work", 1), ("work", 2)]
        found = told(*calls, *asked, ("unmark", 1, 0), *asked)
        self.assertEqual(found[4:7], [[0, 15, 1], [0, 35, 1], [0, 35, 1]])
        self.assertEqual(found[7:], [[3], [0, 10, 1], [0, 30, 1], [0, 40, 1]])

    def test_a_mark_taken_back_leaves_one_alone_and_the_others_together(self):
        marks = {(0, 0): 0, (1, 0): 2, (1, 1): 0, (2, 1): 2, (2, 2): 50}
        found = told(*marking(marks), ("work", 2), ("unmark", 1, 1), ("work", 2), ("work", 0))
        # With hands -2, 0 and 2 first; then judge 2 is alone.
        self.assertEqual(found[len(marks):], [[0, 48, 1], [4], [0, 50, 1], [0, 1, 1]])

    def test_a_mark_given_anew_moves_the_hands(self):
        found = told(
            ("mark", 0, 0, 10), ("mark", 1, 0, 20), ("mark", 1, 1, 30), ("work", 1),
            ("mark", 1, 0, 11), ("work", 1), ("work", 0),
        )
        self.assertEqual(found[3:], [[0, 25, 1], [3], [0, 59, 2], [0, 21, 2]])

    def test_all_marks_alike(self):
        for mark in (0, 7, 1000):
            with self.subTest(mark=mark):
                marks = {(judge, work): mark for judge in range(6) for work in range(16)}
                self.check(marks, {work: (mark, 1) for work in range(16)})
                marks = {(judge, work): mark for judge, work in marks if (judge + work) % 3 != 0}
                self.check(marks, {work: (mark, 1) for work in range(16)})

    def test_no_marks_at_all(self):
        self.assertEqual(told(*[("work", work) for work in range(16)]), [[-2]] * 16)

    def test_where_hands_are_not_all_there_is(self):
        # Judge 1 marks 1 higher once and 2 higher the other time: hands -3/4 and 3/4.
        marks = {(0, 0): 10, (1, 0): 11, (0, 1): 20, (1, 1): 22, (0, 2): 30}
        self.check(marks, {0: (21, 2), 1: (21, 1), 2: (123, 4)})

    def test_each_judge_and_each_work_alone(self):
        for judge in range(6):
            for work in range(16):
                self.check({(judge, work): 100 + work}, {work: (100 + work, 1)})

    def test_a_chain_of_all_judges(self):
        # Each marks 10 above the one before: hands -25, -15, -5, 5, 15, 25.
        marks = {}
        for judge in range(5):
            marks[(judge, judge)] = 100
            marks[(judge + 1, judge)] = 110
        marks[(0, 10)] = 100
        marks[(5, 11)] = 100
        expected = {judge: (125 - 10 * judge, 1) for judge in range(5)}
        self.check(marks, {**expected, 10: (125, 1), 11: (75, 1)})

    def test_the_order_in_which_marks_came_makes_no_difference(self):
        marks = {(0, 0): 10, (2, 0): 14, (1, 1): 20, (2, 1): 17, (0, 2): 30, (1, 3): 30, (1, 0): 3}
        backwards = dict(reversed(list(marks.items())))
        self.assertEqual(works_told(marks), works_told(backwards))


class AgainstTheSentences(unittest.TestCase):
    def check(self, marks):
        right = solved(marks)
        for work, answer in works_told(marks).items():
            self.assertEqual(len(answer), 3)
            self.assertEqual(answer[0], 0)
            self.assertGreater(answer[2], 0)
            self.assertEqual(gcd(answer[1], answer[2]), 1)
            self.assertEqual(Fraction(answer[1], answer[2]), right[("work", work)], marks)

    def test_every_choice_of_marks_of_three_judges_and_three_works(self):
        places = [(judge, work) for judge in range(3) for work in range(3)]
        for choice in range(2 ** 9):
            self.check({
                place: (7 * k * k + 3 * k * choice) % 101
                for k, place in enumerate(places) if choice >> k & 1
            })

    def test_some_marks_of_all_judges_and_works(self):
        source = random.Random(1)
        for share in (10, 15, 20, 30, 50, 70, 90, 100):
            for _ in range(12):
                self.check(some_marks(source, 6, 16, share, 1000))

    def test_few_marks_so_that_there_are_groups(self):
        source = random.Random(2)
        seen = set()
        for _ in range(150):
            marks = some_marks(source, 6, 8, 25, 20)
            seen.add(len(groups(marks)))
            self.check(marks)
        self.assertLessEqual({1, 2, 3, 4}, seen)

    def test_marks_given_and_taken_back_one_after_another(self):
        source = random.Random(3)
        for _ in range(20):
            marks = {}
            calls = []
            expected = []
            while len(calls) < 300:
                judge, work = source.randrange(6), source.randrange(6)
                if source.randrange(5) < 2:
                    calls.append(("unmark", judge, work))
                    gone = marks.pop((judge, work), None) is not None
                    expected.append([len(marks)] if gone else [-2])
                else:
                    marks[(judge, work)] = source.randint(0, 1000)
                    calls.append(("mark", judge, work, marks[(judge, work)]))
                    expected.append([len(marks)])
                if source.randrange(10) == 0:
                    asked = source.randrange(6)
                    right = solved(marks).get(("work", asked))
                    calls.append(("work", asked))
                    expected.append([-2] if right is None else [0, right.numerator, right.denominator])
            self.assertEqual(told(*calls), expected)


class WhatHolds(unittest.TestCase):
    def test_compared_works_are_as_far_from_one_another_as_they_are_worth(self):
        source = random.Random(4)
        for _ in range(40):
            worth = [source.randint(100, 900) for _ in range(16)]
            adds = [source.randint(-100, 100) for _ in range(6)]
            places = some_marks(source, 6, 16, 20, 0)
            marks = {(judge, work): worth[work] + adds[judge] for judge, work in places}
            told_of = works_told(marks)
            for group in groups(marks):
                works = sorted({work for judge, work in marks if judge in group})
                off = {Fraction(told_of[work][1], told_of[work][2]) - worth[work] for work in works}
                self.assertEqual(len(off), 1)

    def test_one_judge_that_marks_all_higher_changes_no_distance(self):
        source = random.Random(5)
        for _ in range(40):
            marks = some_marks(source, 6, 16, 20, 900)
            raised = source.randrange(6)
            higher = {(judge, work): mark + 100 * (judge == raised) for (judge, work), mark in marks.items()}
            before = works_told(marks)
            after = works_told(higher)
            for group in groups(marks):
                works = sorted({work for judge, work in marks if judge in group})
                moved = {
                    Fraction(after[work][1], after[work][2]) - Fraction(before[work][1], before[work][2])
                    for work in works
                }
                self.assertEqual(moved, {Fraction(100, len(group)) if raised in group else Fraction(0)})


if __name__ == "__main__":
    unittest.main()
