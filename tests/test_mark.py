"""Point 2: mark and unmark."""

import unittest

from tests.lines import GREATEST, last, told


class Mark(unittest.TestCase):
    def test_answers_how_many_marks_there_are(self):
        found = told(("mark", 0, 0, 5), ("mark", 0, 1, 5), ("mark", 1, 0, 5), ("mark", 1, 1, 5))
        self.assertEqual(found, [[1], [2], [3], [4]])

    def test_every_judge_may_mark_every_work(self):
        calls = [("mark", judge, work, 0) for judge in range(6) for work in range(16)]
        self.assertEqual(told(*calls), [[k] for k in range(1, 97)])

    def test_edges(self):
        self.assertEqual(last(("mark", 5, 15, 1000)), [1])
        self.assertEqual(last(("mark", 0, 0, 0)), [1])
        self.assertEqual(last(("mark", 6, 15, 1000)), [-22])
        self.assertEqual(last(("mark", 5, 16, 1000)), [-22])
        self.assertEqual(last(("mark", 5, 15, 1001)), [-22])

    def test_numbers_as_great_as_they_may_be(self):
        self.assertEqual(last(("mark", GREATEST, 0, 0)), [-22])
        self.assertEqual(last(("mark", 0, GREATEST, 0)), [-22])
        self.assertEqual(last(("mark", 0, 0, GREATEST)), [-22])
        self.assertEqual(last(("mark", GREATEST, GREATEST, GREATEST)), [-22])

    def test_a_mark_given_anew_stands_instead(self):
        found = told(("mark", 2, 3, 10), ("mark", 2, 3, 999), ("work", 3), ("mark", 2, 3, 0), ("work", 3))
        self.assertEqual(found, [[1], [1], [0, 999, 1], [1], [0, 0, 1]])

    def test_the_same_mark_given_anew_counts_once(self):
        self.assertEqual(told(("mark", 2, 3, 10), ("mark", 2, 3, 10)), [[1], [1]])

    def test_judge_and_work_are_not_mixed_up(self):
        found = told(("mark", 1, 2, 10), ("mark", 2, 1, 30), ("work", 2), ("work", 1))
        self.assertEqual(found, [[1], [2], [0, 10, 1], [0, 30, 1]])

    def test_a_refusal_changes_nothing(self):
        for refused in (("mark", 6, 0, 7), ("mark", 0, 16, 7), ("mark", 0, 0, 1001), ("mark", 6, 16, 1001)):
            with self.subTest(refused=refused):
                found = told(("mark", 0, 0, 5), refused, ("work", 0), ("mark", 1, 1, 5))
                self.assertEqual(found, [[1], [-22], [0, 5, 1], [2]])


class Unmark(unittest.TestCase):
    def test_answers_how_many_marks_there_are(self):
        found = told(
            ("mark", 0, 0, 5), ("mark", 5, 15, 6), ("mark", 1, 2, 7),
            ("unmark", 5, 15), ("unmark", 0, 0), ("unmark", 1, 2),
        )
        self.assertEqual(found, [[1], [2], [3], [2], [1], [0]])

    def test_the_mark_is_gone(self):
        found = told(("mark", 0, 0, 5), ("unmark", 0, 0), ("work", 0), ("unmark", 0, 0))
        self.assertEqual(found, [[1], [0], [-2], [-2]])

    def test_the_other_marks_stay(self):
        found = told(
            ("mark", 0, 0, 5), ("mark", 0, 1, 6), ("mark", 1, 0, 7),
            ("unmark", 0, 0), ("work", 0), ("work", 1),
        )
        self.assertEqual(found[3:], [[2], [0, 7, 1], [0, 6, 1]])

    def test_no_such_mark(self):
        self.assertEqual(last(("unmark", 0, 0)), [-2])
        self.assertEqual(last(("unmark", 5, 15)), [-2])
        self.assertEqual(last(("mark", 0, 1, 5), ("mark", 1, 0, 5), ("unmark", 0, 0)), [-2])
        self.assertEqual(last(("mark", 1, 2, 5), ("unmark", 2, 1)), [-2])

    def test_out_of_range_comes_ahead_of_no_such_mark(self):
        for judge, work in ((6, 0), (0, 16), (6, 16), (GREATEST, 0), (0, GREATEST), (GREATEST, GREATEST)):
            with self.subTest(judge=judge, work=work):
                self.assertEqual(last(("unmark", judge, work)), [-22])

    def test_a_mark_of_0_is_a_mark(self):
        self.assertEqual(told(("mark", 0, 0, 0), ("unmark", 0, 0)), [[1], [0]])

    def test_a_refusal_changes_nothing(self):
        for refused, number in ((("unmark", 6, 0), -22), (("unmark", 0, 16), -22), (("unmark", 0, 1), -2)):
            with self.subTest(refused=refused):
                found = told(("mark", 0, 0, 5), refused, ("work", 0), ("mark", 1, 1, 5))
                self.assertEqual(found, [[1], [number], [0, 5, 1], [2]])

    def test_a_mark_may_come_back(self):
        found = told(("mark", 0, 0, 5), ("unmark", 0, 0), ("mark", 0, 0, 8), ("work", 0))
        self.assertEqual(found, [[1], [0], [1], [0, 8, 1]])


if __name__ == "__main__":
    unittest.main()
