"""The interface: what is handed in and given back, and that nothing else is touched."""

import contextlib
import inspect
import io
import sys
import unittest
from unittest import mock

from likemarks import judges
from likemarks.judges import answers
from tests.lines import line, split

CALLS = line(
    ("mark", 0, 0, 10), ("mark", 1, 0, 21), ("mark", 1, 1, 30), ("work", 0), ("work", 1), ("work", 2),
    ("hand", 0), ("hand", 1), ("hand", 2), ("hand", 6), ("same", 0, 1), ("same", 0, 2), ("same", 16, 2),
    ("order", 0), ("order", 2), ("order", 16), ("off",),
    ("mark", 6, 0, 0), ("unmark", 0, 16), ("unmark", 1, 0), ("unmark", 1, 0), ("work", 0), ("work", 16),
    ("same", 0, 1), ("order", 0), ("mark", 0, 1, 5), ("mark", 1, 0, 12), ("off",),
    ("begin",), ("work", 0), ("off",),
)
ANSWERED = [
    1, 0, 1, 1, 1, 2, 1, 3, 3, 0, 31, 2, 3, 0, 49, 2, 1, -2,
    3, 0, -11, 2, 3, 0, 11, 2, 1, -2, 1, -22, 1, 1, 1, -2, 1, -22,
    3, 2, 1, 0, 1, -2, 1, -22, 3, 0, 0, 1,
    1, -22, 1, -22, 1, 2, 1, -2, 3, 0, 10, 1, 1, -22,
    1, 0, 2, 1, 0, 1, 3, 1, 4, 3, 0, 529, 4,
    1, 0, 1, -2, 3, 0, 0, 1,
]


def names_at_the_top():
    return {name: repr(value) for name, value in vars(judges).items() if not name.startswith("__")}


def refuse(*given, **named):
    raise AssertionError("the list that was handed in is being changed")


class Unchangeable(list):
    """A list that tells when it is changed, be it for a while."""

    append = clear = extend = insert = pop = remove = reverse = sort = refuse
    __setitem__ = __delitem__ = __iadd__ = __imul__ = refuse


class Interface(unittest.TestCase):
    def test_a_whole_line_number_by_number(self):
        self.assertEqual(CALLS[:9], [0, 1, 0, 0, 10, 1, 1, 0, 21])
        self.assertEqual(answers(CALLS), ANSWERED)

    def test_how_each_call_stands_in_the_list(self):
        calls = [0, 1, 0, 2, 7, 1, 3, 2, 9, 3, 2, 4, 3, 5, 2, 2, 6, 2, 7, 2, 3, 2, 7]
        self.assertEqual(answers(calls), [
            1, 0, 1, 1, 1, 2, 3, 0, 8, 1, 3, 0, 1, 1, 1, 1, 2, 1, 2, 3, 0, 0, 1, 1, 1, 3, 0, 0, 1,
        ])

    def test_calls_is_all_that_is_handed_in(self):
        self.assertEqual(list(inspect.signature(answers).parameters), ["calls"])
        self.assertEqual(answers(calls=list(CALLS)), ANSWERED)

    def test_gives_back_a_list_of_whole_numbers(self):
        found = answers(CALLS)
        self.assertIs(type(found), list)
        self.assertEqual({type(number) for number in found}, {int})

    def test_what_is_handed_in_is_not_changed(self):
        calls = list(CALLS)
        answers(calls)
        self.assertEqual(calls, CALLS)

    def test_what_is_handed_in_is_not_changed_for_a_while(self):
        self.assertEqual(answers(Unchangeable(CALLS)), ANSWERED)

    def test_what_is_given_back_is_new(self):
        calls = list(CALLS)
        first = answers(calls)
        self.assertIsNot(first, calls)
        first.clear()
        self.assertEqual(answers(calls), ANSWERED)

    def test_nothing_is_kept_from_one_time_to_the_next(self):
        self.assertEqual(answers(CALLS), ANSWERED)
        answers(line(("mark", 0, 0, 500), ("mark", 5, 0, 1), ("work", 0), ("hand", 5), ("order", 0), ("off",)))
        self.assertEqual(answers(CALLS), ANSWERED)
        self.assertEqual(answers([0, 3, 0, 4, 5, 5, 0, 0, 6, 0, 7]), [1, 0, 1, -2, 1, -2, 1, -2, 1, -2, 3, 0, 0, 1])

    def test_the_names_at_the_top_stay_as_they_are(self):
        before = names_at_the_top()
        answers(CALLS)
        # The begin of a next line would hide marks that are kept: this one leaves some.
        answers(line(("mark", 0, 0, 500), ("mark", 5, 0, 1), ("work", 0), ("hand", 5), ("order", 0), ("off",)))
        self.assertEqual(names_at_the_top(), before)

    def test_nothing_is_printed_or_read(self):
        out = io.StringIO()
        err = io.StringIO()
        with mock.patch("builtins.open", side_effect=AssertionError), mock.patch.object(sys, "stdin", None):
            with contextlib.redirect_stdout(out), contextlib.redirect_stderr(err):
                answers(CALLS)
        self.assertEqual(out.getvalue() + err.getvalue(), "")

    def test_nothing_is_imported_while_it_answers(self):
        with mock.patch("builtins.__import__", side_effect=AssertionError):
            found = answers(CALLS)
        self.assertEqual(found, ANSWERED)

    def test_400_calls(self):
        calls = [("mark", k % 6, k % 16, 1000 - k) for k in range(200)] + [("work", k % 16) for k in range(199)]
        found = split(answers(line(*calls)))
        self.assertEqual(len(found), 400)
        self.assertEqual({len(answer) for answer in found[201:]}, {3})


if __name__ == "__main__":
    unittest.main()
