"""Point 5: order."""

import random
import unittest
from fractions import Fraction

from tests.lines import GREATEST, asked, last, some_marks, told
from tests.oracle import solved, works_compared

# A row for each judge. The marks put right of works 0 and 5 are so near to one
# another that both come to the same floating-point number.
NEAR = (
    "990 988   - 990   - 990 990 990 990 990   - 990 991 991 990   -",
    "990 990 990 990 989 989 990 988   - 990 990 991 988   -   - 990",
    "  - 988   -   -   - 992   - 990   -   - 990 990 990 989   - 990",
    "990 990 990 990 990 990 990   -   -   - 990 990 990 990 993 990",
    "990   -   - 984 990 990   - 990 990 990 983 990 990 983   - 990",
    "  -   - 990 989   - 990 990 991 990 990 990   - 990 990 990   -",
)


def near_marks():
    return {
        (judge, work): int(mark)
        for judge, row in enumerate(NEAR) for work, mark in enumerate(row.split()) if mark != "-"
    }


class Refusals(unittest.TestCase):
    def test_above_15(self):
        self.assertEqual(last(("order", 16)), [-22])
        self.assertEqual(last(("order", GREATEST)), [-22])
        self.assertEqual(last(("mark", 5, 15, 5), ("order", 16)), [-22])

    def test_no_mark(self):
        self.assertEqual(last(("mark", 0, 0, 5), ("order", 1)), [-2])
        self.assertEqual(last(("mark", 0, 0, 5), ("order", 15)), [-2])
        self.assertEqual(last(("mark", 0, 0, 5), ("unmark", 0, 0), ("order", 0)), [-2])

    def test_no_marks_at_all(self):
        self.assertEqual(told(*[("order", work) for work in range(16)]), [[-2]] * 16)

    def test_order_changes_nothing_refused_or_not(self):
        found = asked(
            {(0, 0): 5, (0, 1): 7}, ("order", 16), ("order", 2), ("order", 0), ("order", 0), ("work", 0),
            ("unmark", 0, 2), ("mark", 1, 2, 6),
        )
        self.assertEqual(found, [[-22], [-2], [2, 1, 0], [2, 1, 0], [0, 5, 1], [-2], [3]])


class Corners(unittest.TestCase):
    def check(self, marks, *expected):
        """These orders are answered, each of them for each of its works."""
        for works in expected:
            found = asked(marks, *[("order", work) for work in works])
            self.assertEqual(found, [[len(works)] + list(works)] * len(works))

    def test_a_work_alone(self):
        for work in range(16):
            self.check({(work % 6, work): 7}, (work,))

    def test_one_judge_alone(self):
        self.check({(3, 0): 10, (3, 7): 1000, (3, 15): 0, (3, 2): 11}, (7, 2, 0, 15))

    def test_ties(self):
        self.check({(3, 9): 10, (3, 2): 10, (3, 15): 10, (3, 4): 11, (3, 0): 9}, (4, 2, 9, 15, 0))

    def test_ties_of_works_with_other_judges(self):
        # The hands are -5 and 5: each of the works 1 to 4 is put right to 25.
        marks = {(0, 0): 10, (1, 0): 20, (1, 1): 30, (0, 2): 20, (1, 3): 30, (0, 4): 20}
        self.check(marks, (1, 2, 3, 4, 0))
        # Hands -1/3, -1/3 and 2/3: each of the works 1 to 3 is put right to 4/3.
        marks = {(0, 0): 0, (1, 0): 0, (2, 0): 1, (1, 3): 1, (2, 1): 2, (0, 1): 1, (1, 1): 1, (2, 2): 2}
        self.check(marks, (1, 2, 3, 0))

    def test_by_marks_put_right_and_not_by_marks(self):
        # The hands are -50 and 50: work 1 has the lesser mark and the greater one put right.
        self.check({(0, 0): 100, (1, 0): 200, (0, 1): 300, (1, 2): 350}, (1, 2, 0))

    def test_marks_put_right_below_0(self):
        # Hands -500 and 500.
        marks = {(0, 0): 0, (1, 0): 1000, (1, 1): 0, (1, 2): 1, (1, 3): 500, (1, 4): 0}
        self.check(marks, (0, 3, 2, 1, 4))

    def test_fractions_by_their_worth(self):
        # Hands -13/6 and 13/6; put right to 13, 51/2, 21, 143/6 and 161/6.
        marks = {(0, 0): 10, (1, 0): 16, (0, 1): 23, (1, 1): 28, (0, 2): 20, (1, 2): 22, (1, 3): 26, (1, 4): 29}
        self.check(marks, (4, 1, 3, 2, 0))

    def test_two_judges_with_no_work_in_common_and_a_third_with_works_of_both(self):
        # Put right to 40/3, 52/3, 100/3 and 82/3.
        marks = {(0, 0): 10, (2, 0): 14, (1, 1): 20, (2, 1): 18, (0, 2): 30, (1, 3): 30}
        self.check(marks, (2, 3, 1, 0))

    def test_works_of_another_group_are_left_out(self):
        marks = {(0, 0): 10, (1, 0): 20, (0, 1): 30, (2, 2): 100, (3, 2): 200, (5, 2): 600, (5, 3): 0, (4, 4): 7}
        self.check(marks, (1, 0), (2, 3), (4,))

    def test_a_mark_taken_back_by_which_a_group_falls_apart(self):
        marks = {(0, 0): 10, (1, 0): 20, (0, 1): 30, (1, 2): 40, (1, 3): 10}
        calls = [("order", work) for work in range(4)]
        found = asked(marks, *calls, ("unmark", 1, 0), *calls)
        self.assertEqual(found[:4], [[4, 1, 2, 0, 3]] * 4)
        self.assertEqual(found[5:], [[2, 1, 0], [2, 1, 0], [2, 2, 3], [2, 2, 3]])

    def test_a_mark_by_which_two_groups_become_one(self):
        found = asked({(0, 0): 10, (1, 1): 30}, ("order", 0), ("mark", 1, 0, 20), ("order", 0), ("order", 1))
        self.assertEqual(found, [[1, 0], [3], [2, 1, 0], [2, 1, 0]])

    def test_a_mark_given_anew(self):
        found = asked(
            {(0, 0): 10, (0, 1): 20}, ("order", 0), ("mark", 0, 0, 20), ("order", 0),
            ("mark", 0, 1, 21), ("order", 0), ("mark", 0, 0, 22), ("order", 0),
        )
        self.assertEqual(found[::2], [[2, 1, 0], [2, 0, 1], [2, 1, 0], [2, 0, 1]])

    def test_all_marks_alike(self):
        for mark in (0, 7, 1000):
            self.check({(judge, work): mark for judge in range(6) for work in range(16)}, tuple(range(16)))

    def test_all_works_the_last_one_first(self):
        self.check({(judge, work): 10 * work for judge in range(6) for work in range(16)}, tuple(range(15, -1, -1)))

    def test_the_order_in_which_marks_came_makes_no_difference(self):
        marks = {(0, 0): 10, (2, 0): 14, (1, 1): 20, (2, 1): 17, (0, 2): 30, (1, 3): 30, (1, 0): 3, (2, 4): 17}
        backwards = dict(reversed(list(marks.items())))
        self.assertEqual(asked(marks, ("order", 0)), asked(backwards, ("order", 0)))


class VeryNear(unittest.TestCase):
    def check(self, marks, first, second):
        right = solved(marks)
        self.assertEqual(right[("work", first)] - right[("work", second)], Fraction(1, 96938477512998))
        self.assertEqual(float(right[("work", first)]), float(right[("work", second)]))
        found = asked(marks, ("order", 0))[0]
        self.assertEqual(found[0], 16)
        self.assertEqual(found.index(first, 1) + 1, found.index(second, 1))

    def test_the_greater_number_is_put_right_a_very_little_higher(self):
        self.check(near_marks(), 5, 0)

    def test_the_lesser_number_is_put_right_a_very_little_higher(self):
        self.check({place: 1980 - mark for place, mark in near_marks().items()}, 0, 5)


class AgainstTheSentences(unittest.TestCase):
    def check(self, marks):
        right = solved(marks)
        works = sorted({work for _, work in marks})
        found = asked(marks, *[("order", work) for work in works])
        for work, answer in zip(works, found):
            expected = sorted(works_compared(marks, work), key=lambda other: (-right[("work", other)], other))
            self.assertEqual(answer, [len(expected)] + expected, marks)

    def test_some_marks_of_all_judges_and_works(self):
        source = random.Random(31)
        for share in (10, 15, 20, 30, 50, 70, 90, 100):
            for _ in range(6):
                self.check(some_marks(source, 6, 16, share, 1000))

    def test_few_unlike_marks_so_that_there_are_ties(self):
        source = random.Random(32)
        ties = 0
        for _ in range(100):
            marks = some_marks(source, 6, 8, 30, 2)
            right = solved(marks)
            for work in {work for _, work in marks}:
                kin = works_compared(marks, work)
                ties += len(kin) - len({right[("work", other)] for other in kin})
            self.check(marks)
        self.assertGreater(ties, 100)


if __name__ == "__main__":
    unittest.main()
