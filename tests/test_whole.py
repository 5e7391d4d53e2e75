"""The whole program: lines with every call, and the longest ones."""

import random
import time
import unittest

from likemarks.judges import answers
from tests.lines import GREATEST, line, marking, split
from tests.oracle import answered

# Far more than is needed, on a slow machine too.
SOON = 10


def some_number(source, count):
    """Mostly one of so many, at times the first one that is too great, or a far greater one."""
    chance = source.randrange(30)
    if chance == 0:
        return count
    if chance == 1:
        return source.choice((count + 1, 2 ** 16, 2 ** 31, 2 ** 32 - count, GREATEST))
    return source.randrange(count)


def some_call(source, works):
    judge = some_number(source, 6)
    work = source.choice(works) if source.randrange(10) else some_number(source, 16)
    other = source.choice(works) if source.randrange(10) else some_number(source, 16)
    return source.choice(
        12 * [("mark", judge, work, some_number(source, 1001))] + 6 * [("unmark", judge, work)]
        + 3 * [("work", work), ("hand", judge), ("same", work, other), ("order", work)] + [("off",)]
    )


class Lines(unittest.TestCase):
    def check_each(self, found, expected):
        """Of long lists the first difference is told; to tell them all would take very long."""
        self.assertEqual(len(found), len(expected))
        for k in range(len(found)):
            self.assertEqual((k, found[k]), (k, expected[k]))


class Whole(Lines):
    def check(self, calls):
        numbers = line(*calls)
        handed = list(numbers)
        first = answers(handed)
        self.check_each(split(first), [[0]] + answered(calls))
        self.check_each(handed, numbers)
        self.check_each(answers(handed), first)

    def test_some_lines_of_every_call(self):
        source = random.Random(51)
        for _ in range(60):
            works = source.sample(range(16), source.randint(1, 7))
            calls = [some_call(source, works) for _ in range(source.randint(1, 120))]
            if source.randrange(4) == 0:
                calls.insert(source.randrange(len(calls)), ("begin",))
            self.check(calls)

    def test_every_call_with_no_marks(self):
        numbers = (0, 1, 5, 6, 15, 16, GREATEST)
        calls = [(name, number) for name in ("work", "hand", "order") for number in numbers]
        calls += [(name, one, other) for name in ("same", "unmark") for one in numbers for other in numbers]
        self.check(calls + [("off",)])

    def test_every_call_after_each_mark_of_a_group_that_grows_and_falls_apart(self):
        places = [(0, 0), (1, 1), (2, 2), (2, 0), (2, 1), (0, 3), (1, 3)]
        questions = [("work", work) for work in range(4)] + [("hand", judge) for judge in range(3)]
        questions += [("same", 0, 1), ("same", 3, 2), ("order", 0), ("order", 3), ("off",)]
        calls = []
        for k, (judge, work) in enumerate(places):
            calls += [("mark", judge, work, 7 * k * k % 50)] + questions
        for judge, work in places:
            calls += [("unmark", judge, work)] + questions
        self.check(calls)


class LongLines(Lines):
    def setUp(self):
        source = random.Random(52)
        self.marks = {(judge, work): source.randint(0, 1000) for judge in range(6) for work in range(16)}

    def soon(self, calls):
        numbers = line(*calls)
        before = time.process_time()
        found = split(answers(numbers))
        self.assertLess(time.process_time() - before, SOON)
        self.assertEqual(len(found), 400)
        return found[1:]

    def test_400_calls_of_which_96_are_marks(self):
        questions = [("off",), ("order", 3), ("work", 15), ("hand", 5), ("same", 0, 15)]
        expected = answered(marking(self.marks) + questions)[96:]
        found = self.soon(marking(self.marks) + (questions * 61)[:303])
        self.check_each(found[:96], [[count] for count in range(1, 97)])
        self.check_each(found[96:], (expected * 61)[:303])

    def test_each_question_303_times(self):
        for question in (("off",), ("order", 3), ("work", 15), ("hand", 5), ("same", 0, 15)):
            with self.subTest(question=question):
                found = self.soon(marking(self.marks) + [question] * 303)
                self.check_each(found[96:], answered(marking(self.marks) + [question])[96:] * 303)

    def test_a_mark_given_anew_before_each_question(self):
        calls = marking(self.marks)
        for k in range(151):
            calls += [("mark", k % 6, k % 16, k), ("off",)]
        found = self.soon(calls + [("order", 0)])
        given = [call for call in calls if call[0] == "mark"]
        self.assertEqual(found[-2:], answered(given + [("off",), ("order", 0)])[-2:])


if __name__ == "__main__":
    unittest.main()
