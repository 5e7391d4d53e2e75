"""Point 6: off."""

import random
import unittest
from fractions import Fraction
from math import gcd

from tests.lines import asked, hands_told, some_marks, told, works_told
from tests.oracle import groups, solved, squares_left

# Judge 1 marks 1 higher once and 2 higher the other time: a quarter is left of each mark.
QUARTERS = {(0, 0): 10, (1, 0): 11, (0, 1): 20, (1, 1): 22}


class Corners(unittest.TestCase):
    def check(self, marks, above, below):
        self.assertEqual(asked(marks, ("off",)), [[0, above, below]])

    def test_no_marks_at_all(self):
        self.assertEqual(told(("off",), ("off",)), [[0, 0, 1]] * 2)

    def test_no_marks_any_more(self):
        found = asked(QUARTERS, ("off",), *[("unmark", judge, work) for judge, work in QUARTERS], ("off",))
        self.assertEqual((found[0], found[-1]), ([0, 1, 4], [0, 0, 1]))
        self.assertEqual(asked(QUARTERS, ("begin",), ("off",)), [[0], [0, 0, 1]])

    def test_one_judge_alone(self):
        self.check({(3, 0): 10, (3, 7): 1000, (3, 15): 0}, 0, 1)

    def test_a_work_alone(self):
        self.check({(judge, 15): 7 * judge * judge for judge in range(6)}, 0, 1)

    def test_all_marks_alike(self):
        for mark in (0, 7, 1000):
            self.check({(judge, work): mark for judge in range(6) for work in range(16)}, 0, 1)

    def test_each_mark_is_its_works_worth_and_its_judges_hand(self):
        self.check({(judge, work): 60 * work + 7 * judge for judge in range(6) for work in range(16)}, 0, 1)
        self.check({(0, 0): 10, (1, 0): 13, (0, 1): 25, (1, 1): 28, (0, 2): 0, (1, 3): 1000}, 0, 1)

    def test_where_hands_are_not_all_there_is(self):
        self.check(QUARTERS, 1, 4)

    def test_a_work_with_one_mark_leaves_nothing(self):
        for mark in (0, 30, 1000):
            self.check({**QUARTERS, (0, 2): mark}, 1, 4)

    def test_in_lowest_terms(self):
        # Twice and three times as far off, as squares 4 and 9 times as much.
        self.check({place: 2 * mark for place, mark in QUARTERS.items()}, 1, 1)
        self.check({place: 3 * mark for place, mark in QUARTERS.items()}, 9, 4)

    def test_as_far_off_as_may_be(self):
        self.check({(0, 0): 1000, (1, 0): 0, (0, 1): 0, (1, 1): 1000}, 1000000, 1)
        # Each of 96 marks is 500 off.
        marks = {(judge, work): 1000 * ((judge + work) % 2) for judge in range(6) for work in range(16)}
        self.check(marks, 24000000, 1)

    def test_over_all_groups(self):
        again = {(judge + 4, work + 8): mark for (judge, work), mark in QUARTERS.items()}
        thrice = {(judge + 2, work + 4): 3 * mark for (judge, work), mark in QUARTERS.items()}
        self.check({**QUARTERS, **again}, 1, 2)
        self.check({**QUARTERS, **again, **thrice}, 11, 4)

    def test_by_way_of_a_third_judge(self):
        # Of a ring of three judges with two works each, one mark is 6 too high for hands alone: 1 is left of each.
        marks = {(0, 0): 10, (1, 0): 10, (1, 1): 10, (2, 1): 10, (2, 2): 10, (0, 2): 16}
        self.check(marks, 6, 1)

    def test_a_mark_taken_back_by_which_nothing_is_left(self):
        found = asked(QUARTERS, ("off",), ("unmark", 1, 1), ("off",))
        self.assertEqual(found, [[0, 1, 4], [3], [0, 0, 1]])

    def test_a_mark_given_anew(self):
        found = asked(QUARTERS, ("off",), ("mark", 1, 1, 21), ("off",), ("mark", 1, 1, 24), ("off",))
        self.assertEqual(found[::2], [[0, 1, 4], [0, 0, 1], [0, 9, 4]])

    def test_off_changes_nothing(self):
        found = asked(QUARTERS, ("off",), ("off",), ("hand", 1), ("work", 0), ("order", 0), ("mark", 2, 2, 5))
        self.assertEqual(found, [[0, 1, 4], [0, 1, 4], [0, 3, 4], [0, 21, 2], [2, 1, 0], [5]])

    def test_refusals_change_nothing_of_it(self):
        for refused, number in (
            (("mark", 0, 0, 1001), -22), (("mark", 6, 0, 5), -22), (("unmark", 0, 16), -22), (("unmark", 0, 2), -2),
        ):
            self.assertEqual(asked(QUARTERS, refused, ("off",)), [[number], [0, 1, 4]])


class AgainstTheSentences(unittest.TestCase):
    def check(self, marks):
        answer = asked(marks, ("off",))[0]
        self.assertEqual(len(answer), 3)
        self.assertEqual(answer[0], 0)
        self.assertGreater(answer[2], 0)
        self.assertEqual(gcd(answer[1], answer[2]), 1)
        self.assertEqual(Fraction(answer[1], answer[2]), squares_left(marks, solved(marks)), marks)
        return answer

    def test_every_choice_of_marks_of_three_judges_and_three_works(self):
        places = [(judge, work) for judge in range(3) for work in range(3)]
        for choice in range(2 ** 9):
            self.check({
                place: (13 * k * k + 3 * k * choice) % 101
                for k, place in enumerate(places) if choice >> k & 1
            })

    def test_some_marks_of_all_judges_and_works(self):
        source = random.Random(41)
        greatest = 0
        for share in (10, 15, 20, 30, 50, 60, 70, 80, 90, 100):
            for _ in range(6):
                answer = self.check(some_marks(source, 6, 16, share, 1000))
                greatest = max(greatest, answer[1])
        self.assertGreater(greatest, 2 ** 64)

    def test_few_marks_so_that_there_are_groups(self):
        source = random.Random(42)
        for _ in range(60):
            self.check(some_marks(source, 6, 12, 30, 20))


class WhatHolds(unittest.TestCase):
    def test_0_where_each_mark_is_its_works_worth_and_its_judges_hand(self):
        source = random.Random(43)
        for _ in range(40):
            worth = [source.randint(100, 900) for _ in range(16)]
            adds = [source.randint(-100, 100) for _ in range(6)]
            places = some_marks(source, 6, 16, 40, 0)
            marks = {(judge, work): worth[work] + adds[judge] for judge, work in places}
            self.assertEqual(asked(marks, ("off",)), [[0, 0, 1]])

    def test_with_whatever_other_numbers_it_would_be_no_less(self):
        source = random.Random(44)
        for _ in range(30):
            marks = some_marks(source, 6, 10, 40, 1000)
            off = asked(marks, ("off",))[0]
            told_of = {("work", work): answer for work, answer in works_told(marks).items()}
            told_of.update({("hand", judge): answer for judge, answer in hands_told(marks).items()})
            right = {name: Fraction(answer[1], answer[2]) for name, answer in told_of.items()}
            self.assertEqual(squares_left(marks, right), Fraction(off[1], off[2]))
            for _ in range(20):
                step = Fraction(1, source.choice((1, 10, 1000, 10 ** 9)))
                other = {name: value + step * source.randint(-3, 3) for name, value in right.items()}
                self.assertGreaterEqual(squares_left(marks, other), Fraction(off[1], off[2]))

    def test_one_judge_that_marks_all_higher_is_no_more_off(self):
        source = random.Random(45)
        for _ in range(30):
            marks = some_marks(source, 6, 16, 30, 900)
            raised = source.randrange(6)
            higher = {(judge, work): mark + 100 * (judge == raised) for (judge, work), mark in marks.items()}
            self.assertEqual(asked(marks, ("off",)), asked(higher, ("off",)))

    def test_off_of_all_groups_is_that_of_each_together(self):
        source = random.Random(46)
        for _ in range(40):
            marks = some_marks(source, 6, 12, 22, 50)
            together = Fraction(0)
            for group in groups(marks):
                part = {(judge, work): mark for (judge, work), mark in marks.items() if judge in group}
                answer = asked(part, ("off",))[0]
                together += Fraction(answer[1], answer[2])
            self.assertEqual(asked(marks, ("off",)), [[0, together.numerator, together.denominator]])


if __name__ == "__main__":
    unittest.main()
