"""Point 1: begin."""

import unittest

from likemarks.judges import answers
from tests.lines import told


class Begin(unittest.TestCase):
    def test_begin_alone_answers_0(self):
        self.assertEqual(answers([0]), [1, 0])

    def test_there_are_no_marks_at_all_after_it(self):
        calls = [("work", work) for work in range(16)]
        self.assertEqual(told(*calls), [[-2]] * 16)
        calls = [("unmark", judge, work) for judge in range(6) for work in range(16)]
        self.assertEqual(told(*calls), [[-2]] * 96)
        calls = [("hand", judge) for judge in range(6)] + [("order", work) for work in range(16)]
        self.assertEqual(told(*calls), [[-2]] * 22)
        self.assertEqual(told(("same", 0, 0), ("off",)), [[-2], [0, 0, 1]])

    def test_begin_that_comes_again_takes_every_mark_away(self):
        found = told(
            ("mark", 0, 0, 5), ("mark", 5, 15, 6), ("begin",),
            ("work", 0), ("work", 15), ("unmark", 0, 0), ("hand", 5), ("same", 0, 0), ("order", 15), ("off",),
            ("mark", 1, 1, 7), ("work", 1),
        )
        self.assertEqual(found[:3], [[1], [2], [0]])
        self.assertEqual(found[3:], [[-2]] * 6 + [[0, 0, 1], [1], [0, 7, 1]])

    def test_begin_may_come_again_at_once_and_often(self):
        self.assertEqual(answers([0] * 400), [1, 0] * 400)

    def test_hands_from_before_it_are_gone(self):
        found = told(
            ("mark", 0, 0, 0), ("mark", 1, 0, 10), ("begin",),
            ("mark", 1, 1, 10), ("work", 1),
        )
        self.assertEqual(found[-1], [0, 10, 1])


if __name__ == "__main__":
    unittest.main()
