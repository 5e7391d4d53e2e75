"""Point 4: same, and when works are compared."""

import random
import unittest

from tests.lines import GREATEST, asked, last, some_marks, told
from tests.oracle import works_compared

# Judges 0 and 1 have no work in common, judge 2 has one with each of them.
BY_WAY_OF_A_THIRD = {(0, 0): 10, (0, 3): 4, (2, 0): 14, (2, 1): 18, (1, 1): 20, (1, 4): 30}
TWO_GROUPS = {(0, 0): 10, (1, 0): 20, (1, 1): 30, (2, 2): 10, (3, 2): 20, (3, 3): 30}


class Refusals(unittest.TestCase):
    def test_above_15(self):
        for great in (16, GREATEST):
            self.assertEqual(asked({(0, 0): 5}, ("same", great, 0), ("same", 0, great)), [[-22]] * 2)
            self.assertEqual(last(("same", great, great)), [-22])

    def test_above_15_comes_ahead_of_no_mark(self):
        for great in (16, GREATEST):
            for marks in ({}, {(0, 0): 5}):
                self.assertEqual(asked(marks, ("same", great, 1), ("same", 1, great)), [[-22]] * 2)

    def test_no_mark(self):
        for marked in (0, 1, 15):
            other = 15 - marked
            found = asked({(3, marked): 5}, ("same", marked, other), ("same", other, marked), ("same", other, other))
            self.assertEqual(found, [[-2]] * 3)

    def test_no_marks_at_all(self):
        calls = [("same", one, other) for one in range(16) for other in range(16)]
        self.assertEqual(told(*calls), [[-2]] * 256)

    def test_no_mark_any_more(self):
        found = told(("mark", 0, 0, 5), ("mark", 0, 1, 5), ("same", 0, 1), ("unmark", 0, 1), ("same", 0, 1))
        self.assertEqual(found[2:], [[1], [1], [-2]])

    def test_same_changes_nothing_refused_or_not(self):
        found = asked(
            {(0, 0): 5, (0, 1): 7}, ("same", 16, 0), ("same", 2, 0), ("same", 0, 1), ("same", 0, 1),
            ("unmark", 0, 2), ("order", 0), ("mark", 1, 2, 6),
        )
        self.assertEqual(found, [[-22], [-2], [1], [1], [-2], [2, 1, 0], [3]])


class Same(unittest.TestCase):
    def check(self, marks, compared):
        """The works of each of the texts are compared with one another and with no others."""
        kin = {work: group for group in compared for work in group}
        pairs = [(one, other) for one in kin for other in kin]
        found = asked(marks, *[("same", one, other) for one, other in pairs])
        self.assertEqual(dict(zip(pairs, found)), {pair: [int(kin[pair[0]] == kin[pair[1]])] for pair in pairs})

    def test_a_work_with_itself(self):
        for work in range(16):
            self.assertEqual(asked({(5, work): 0}, ("same", work, work)), [[1]])

    def test_works_of_one_judge(self):
        self.check({(3, work): work for work in range(16)}, [tuple(range(16))])

    def test_works_of_judges_with_a_work_in_common(self):
        self.check({(0, 0): 10, (1, 0): 20, (0, 1): 30, (1, 2): 40}, [(0, 1, 2)])

    def test_by_way_of_a_third_judge(self):
        self.check(BY_WAY_OF_A_THIRD, [(0, 1, 3, 4)])

    def test_by_way_of_all_judges(self):
        # Each judge has one work in common with the next one, whatever their numbers.
        for row in ((0, 1, 2, 3, 4, 5), (5, 4, 3, 2, 1, 0), (3, 0, 5, 1, 4, 2)):
            marks = {(judge, 2 * k): 5 for k, judge in enumerate(row)}
            marks.update({(judge, 2 * k + 2): 5 for k, judge in enumerate(row)})
            self.check(marks, [(0, 2, 4, 6, 8, 10, 12)])

    def test_two_groups(self):
        self.check(TWO_GROUPS, [(0, 1), (2, 3)])

    def test_six_groups(self):
        marks = {(judge, work): 500 for judge in range(6) for work in (judge, judge + 8)}
        self.check(marks, [(judge, judge + 8) for judge in range(6)])

    def test_like_marks_do_not_make_works_compared(self):
        self.assertEqual(asked({(0, 0): 5, (1, 1): 5}, ("same", 0, 1)), [[0]])

    def test_unlike_marks_do_not_keep_works_from_being_compared(self):
        self.assertEqual(asked({(0, 0): 0, (0, 1): 1000}, ("same", 0, 1)), [[1]])

    def test_a_mark_taken_back_by_which_a_group_falls_apart(self):
        calls = [("same", 3, 4), ("same", 0, 1), ("same", 0, 3), ("same", 1, 4)]
        found = asked(BY_WAY_OF_A_THIRD, *calls, ("unmark", 2, 0), *calls, ("mark", 2, 3, 0), *calls)
        self.assertEqual(found[:4], [[1]] * 4)
        self.assertEqual(found[5:9], [[0], [0], [1], [1]])
        self.assertEqual(found[10:], [[1]] * 4)

    def test_a_mark_by_which_two_groups_become_one(self):
        found = asked(TWO_GROUPS, ("same", 1, 3), ("mark", 3, 1, 0), ("same", 1, 3), ("same", 0, 2))
        self.assertEqual(found, [[0], [7], [1], [1]])

    def test_a_mark_given_anew_changes_nothing_of_it(self):
        found = asked(TWO_GROUPS, ("mark", 1, 0, 0), ("same", 0, 1), ("same", 0, 2))
        self.assertEqual(found, [[6], [1], [0]])

    def test_all_works_of_some_marks(self):
        source = random.Random(21)
        seen = set()
        for share in (6, 9, 12, 15, 20, 40):
            for _ in range(20):
                marks = some_marks(source, 6, 16, share, 1000)
                compared = {tuple(sorted(works_compared(marks, work))) for _, work in marks}
                seen.add(len(compared))
                self.check(marks, sorted(compared))
        self.assertLessEqual({1, 2, 3, 4, 5}, seen)


if __name__ == "__main__":
    unittest.main()
