"""The interface: the form of the two lists, and that nothing is changed or kept."""

import contextlib
import io
import unittest

from chancebits.desk import answers
from tests.words import answered, answered_by_words, begin, bit, finish, get, get_even, get_tree, left, opening

WRITING = [0, 9, 1, 8, 1, 3, 0, 3, 5, 2, 4294967295, 32, 9, 8, 4, 100, 4, 7, 1, 9, 0, 10, 6, 0]
READING = [5, 2, 9, 1, 2, 3, 4, 5, 6, 7, 8, 9, 4, 100, 6, 1, 7, 32, 8, 0, 1, 9, 1, 10, 7, 33, 8, 0, 2, 10, 6, 2]
MIXED = WRITING + READING


class Untouched(list):
    """A list that fails where it is changed."""

    def fail(self, *given, **named):
        raise AssertionError("the list that is handed in is changed")

    __setitem__ = __delitem__ = __iadd__ = __imul__ = fail
    append = clear = extend = insert = pop = remove = reverse = sort = fail


class Interface(unittest.TestCase):
    def test_the_form_of_both_lists(self):
        self.assertEqual(answers([0, 1]), [1, 0])
        self.assertEqual(answers([0, 0]), [1, -2])
        self.assertEqual(answers([4, 3]), [1, -1])
        self.assertEqual(answers([4, 4]), [5, 4, 0, 0, 0, 0])
        self.assertEqual(answers([1, 0, 1, 4, 4, 1, 1, 1]), [1, 0, 5, 4, 127, 255, 252, 0, 1, -2])
        self.assertEqual(answers([5, 1, 0]), [1, 0])
        self.assertEqual(answers([5, 1, 2, 4, 4, 4, 4, 0, 1, 4, 4]), [1, 0, 1, -2, 1, 0, 5, 4, 0, 0, 0, 0])

    def test_the_form_of_the_calls_that_read(self):
        self.assertEqual(answers([6, 0, 7, 1, 8, 0, 1, 9, 0, 10]), [1, -2, 1, -2, 1, -2, 1, 1024, 1, -2])
        opened = [5, 1, 5, 255, 255, 255, 255, 0]
        self.assertEqual(answers(opened + [10, 6, 0, 9, 0]), [1, 0, 1, 1, 1, 1, 1, 992])
        self.assertEqual(answers(opened + [7, 32, 10, 7, 0]), [1, 0, 2, 0, 0xFF000007, 1, 0, 2, 0, 0])
        self.assertEqual(answers(opened + [8, 0, 1, 10]), [1, 0, 1, 1, 1, 1])
        self.assertEqual(answers(opened + [6, 1, 7, 33, 8, 0, 2, 9, 1, 10]), [1, 0] + [1, -2] * 4 + [1, 1])

    def test_whole_numbers_alone_are_answered(self):
        got = answers(MIXED)
        self.assertIs(type(got), list)
        self.assertEqual({type(number) for number in got}, {int})

    def test_what_is_handed_in_is_not_changed(self):
        calls = list(MIXED)
        answers(calls)
        self.assertEqual(calls, MIXED)

    def test_what_is_handed_in_is_not_changed_for_a_while_either(self):
        self.assertEqual(answers(Untouched(MIXED)), answers(MIXED))

    def test_a_second_time_answers_like_the_first(self):
        first = answers(MIXED)
        answers([0, 4096, 3, 0, 12, 4095, 1, 4095, 1])
        answers([5, 4096, 1, 255, 6, 0, 7, 32, 8, 0, 12])
        self.assertEqual(answers(MIXED), first)

    def test_a_new_object_each_time(self):
        answers([0, 2, 1, 1, 1])
        self.assertEqual(answers([4, 4, 1, 1, 1]), [5, 4, 0, 0, 0, 0, 1, -2])
        answers([5, 2, 0, 6, 0])
        self.assertEqual(answers([4, 4, 9, 0, 10]), [5, 4, 0, 0, 0, 0, 1, 1024, 1, -2])

    def test_what_is_answered_may_be_changed(self):
        first = answers([1, 0, 1, 4, 4])
        kept = list(first)
        first.clear()
        self.assertEqual(answers([1, 0, 1, 4, 4]), kept)

    def test_a_full_line(self):
        calls = [0, 4096] + [3, 0, 12, 4095] * 398 + [4, 1048576]
        got = answers(calls)
        self.assertEqual(got[:2 * 399], [1, 0] * 399)
        self.assertEqual(got[798], got[799] + 1)
        self.assertEqual(len(got), 800 + got[799])

    def test_a_long_row(self):
        self.assertEqual(answers([5, 4096, 20000] + [255] * 20000 + [0, 4096]), [1, 0, 1, 0])

    def test_a_full_line_that_reads(self):
        calls = [opening(4096, [0x5A] * 20000)] + [get_tree(0, 12), get_even(32), get(4095)] * 133
        self.assertEqual(len(calls), 400)
        self.assertEqual(answered(*calls), answered_by_words(*calls))

    def test_as_many_numbers_as_there_may_be(self):
        before = [opening(3, [200, 7] * 10000), get_even(32)] + [get(2)] * 197
        between = [opening(4096, [9] * 9), begin(2), bit(1, 1), finish()]
        behind = [get(1)] * 86 + [left()] * 20
        others = sum(len(call) for call in before + between + behind)
        calls = before + between + [opening(2, [3] * (30000 - others - 3))] + behind
        flat = [number for call in calls for number in call]
        self.assertEqual(len(flat), 30000)
        self.assertLessEqual(len(calls), 400)
        self.assert_unchanged(flat)
        self.assertEqual(answered(*calls), answered_by_words(*calls))

    def test_400_rows(self):
        calls = [opening(1 + at, [at % 256] * 71) for at in range(399)] + [left()]
        self.assertEqual(answered(*calls), [[0]] * 399 + [[67]])

    def test_nothing_is_printed(self):
        shown = io.StringIO()
        with contextlib.redirect_stdout(shown), contextlib.redirect_stderr(shown):
            answers(MIXED)
        self.assertEqual(shown.getvalue(), "")

    def assert_unchanged(self, calls):
        """The list stays the same, and a second time answers like the first."""
        kept = list(calls)
        first = answers(calls)
        self.assertEqual(calls, kept)
        self.assertEqual(answers(calls), first)
        self.assertEqual(calls, kept)


if __name__ == "__main__":
    unittest.main()
